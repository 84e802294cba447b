import PyProof.Rows.All
import Wide.All
import OpenK.AllK
import Wide.FinOn
import Lean
import PyProof.EqAt
import PyProof.EqKinds
import PyProof.TupleCall
import PyProof.StationsW
import PyProof.RulesAs
import PyProof.ExcClass3
import PyProof.NsDelKeeps
import PyProof.PassesOwn
import PyProof.ZipIter
import PyProof.WalksU
import PyProof.WalksMore
import PyProof.StrCalls2
import KE.KIntText
import PyProof.Rows.StrItems
import PyProof.StrLawsOcc
import PyProof.StrWalks
import PyProof.Draws
import PyProof.EnumMake
import PyProof.WalksEnum
import PyProof.StrLawsTight
import PyProof.StrLawsChain
import PyProof.StrLawsIn
import PyProof.StrLawsJoin
import PySem.Challenge.RW_stilldose_k30_whole_saved
set_option Elab.async false
set_option linter.all false
set_option maxRecDepth 100000
/-! THE HAND LAYER, for ints, bools, texts, own classes, LISTS and tuples (index, slices, in, append, pop ..), calls, loops. Paste it whole ahead of your own text; what your proof does not reach may be deleted. -/
namespace L2
open PySem PySem.Spec PyProof.Rows

noncomputable abbrev Key:=Sum Int Str
noncomputable def keyIs:Key→Value→Bool
  | .inl k,v=>Value.isInt k v
  | .inr x,v=>Value.isStrOf x v
noncomputable def keyH (w:World):Key→Int
  | .inl k=>hashInt k
  | .inr x=>hashStr w x
theorem keyIs_shape:∀ {k:Key}{v:Value},keyIs k v=true→(∃ i t,k=Sum.inl i∧v=Value.int i t) ∨ (∃ x t,k=Sum.inr x∧v=Value.str x t)
  | .inl i,v,h=>by
    obtain ⟨t,e⟩:=Value.isInt_shape (k:=i) (v:=v) h
    exact .inl ⟨i,t,rfl,e⟩
  | .inr x,v,h=>by
    obtain ⟨t,e⟩:=Value.isStrOf_shape (x:=x) (v:=v) h
    exact .inr ⟨x,t,rfl,e⟩
theorem keyIs_int (i:Int) (t:Tok):keyIs (.inl i) (.int i t)=true:=by simp [keyIs,Value.isInt]
theorem keyIs_str (x:Str) (t:Tok):keyIs (.inr x) (.str x t)=true:=by simp [keyIs,Value.isStrOf]
theorem key_ll (a b:Int):decide ((Sum.inl a:Key)=Sum.inl b)=(a == b):=by
  by_cases e:a=b
  · subst e;simp
  · have h:¬ (Sum.inl a:Key)=Sum.inl b:=fun q=>e (Sum.inl.inj q)
    rw [decide_eq_false h]
    exact (beq_eq_false_iff_ne.mpr e).symm
theorem key_rr (a b:Str):decide ((Sum.inr a:Key)=Sum.inr b)=decide (a=b):=by
  by_cases e:a=b
  · subst e;simp
  · have h:¬ (Sum.inr a:Key)=Sum.inr b:=fun q=>e (Sum.inr.inj q)
    rw [decide_eq_false h,decide_eq_false e]
theorem key_lr (a:Int) (b:Str):decide ((Sum.inl a:Key)=Sum.inr b)=false:=decide_eq_false (fun q=>nomatch q)
theorem key_rl (a:Str) (b:Int):decide ((Sum.inr a:Key)=Sum.inl b)=false:=decide_eq_false (fun q=>nomatch q)

noncomputable def mixKind (prog:Program) (w:World):PySem.KeyKind prog w Key where
  is:=keyIs
  hash:=keyH w
  inj:=fun v a b ha hb=>by
    rcases keyIs_shape ha with ⟨i,t,rfl,rfl⟩ | ⟨x,t,rfl,rfl⟩
    · rcases keyIs_shape hb with ⟨j,u,rfl,e⟩ | ⟨y,u,rfl,e⟩
      · injection e with e1 _;rw [e1]
      · exact nomatch e
    · rcases keyIs_shape hb with ⟨j,u,rfl,e⟩ | ⟨y,u,rfl,e⟩
      · exact nomatch e
      · injection e with e1 _;rw [e1]
  byValue:=fun k v h=>by
    rcases keyIs_shape h with ⟨i,t,rfl,rfl⟩ | ⟨x,t,rfl,rfl⟩ <;> rfl
  pyHash:=fun hv h=>by
    rcases keyIs_shape hv with ⟨i,t,rfl,rfl⟩ | ⟨x,t,rfl,rfl⟩
    · exact wpAny_pyHash_int h
    · exact wpAny_pyHash_str h
  eqBool:=fun hu hv h=>by
    rcases keyIs_shape hu with ⟨i,t,rfl,rfl⟩ | ⟨x,t,rfl,rfl⟩
    · rcases keyIs_shape hv with ⟨j,u,rfl,rfl⟩ | ⟨y,u,rfl,rfl⟩
      · rw [key_ll] at h;exact wpAny_eqBool_int h
      · rw [key_lr] at h;exact SeqAt.EqAt.int_str i t y u _ _ _ _ h
    · rcases keyIs_shape hv with ⟨j,u,rfl,rfl⟩ | ⟨y,u,rfl,rfl⟩
      · rw [key_rl] at h;exact SeqAt.EqAt.str_int x t j u _ _ _ _ h
      · rw [key_rr] at h;exact wpAny_eqBool_str h
  «strs»:=fun k x t v h=>by
    rcases keyIs_shape h with ⟨i,u,rfl,e⟩ | ⟨y,u,rfl,e⟩
    · exact nomatch e
    · injection e with e1 _
      subst e1
      cases v <;> rfl

theorem mixKind_int (prog:Program) (w:World) (i:Int) (t:Tok):(mixKind prog w).is (.inl i) (.int i t)=true:=keyIs_int i t
theorem mixKind_str (prog:Program) (w:World) (x:Str) (t:Tok):(mixKind prog w).is (.inr x) (.str x t)=true:=keyIs_str x t
end L2

namespace L2
open PySem PySem.Spec PyProof.Rows

inductive V where
  | non | bl (b:Bool) | int (i:Int) | str (x:Str) | byt (b:Array UInt8) | flt (b:UInt64) | ref (a:Addr) | ty (n:String)
  deriving DecidableEq

noncomputable def RelV:V→Value→Prop
  | .non,u=>u=Value.none
  | .bl b,u=>u=Value.bool b
  | .int i,u=>∃ t,u=Value.int i t
  | .str x,u=>∃ t,u=Value.str x t
  | .byt b,u=>∃ t,u=Value.bytes b t
  | .flt b,u=>∃ t,u=Value.float b t
  | .ref a,u=>u=Value.ref a
  | .ty n,u=>u=Value.type n

noncomputable abbrev Vals:List V→List Value→Prop:=Paired RelV
theorem Vals.length {xs:List V}{us:List Value} (r:Vals xs us):xs.length=us.length:=Paired.length r
theorem Vals.get:∀ {xs:List V}{us:List Value}{i:Nat}{x:V},Vals xs us→xs[i]?=some x→∃ u,us[i]?=some u∧RelV x u
  | _,_,_,_,.nil,e=>by simp at e
  | _,_,0,_,.cons r _,e=>by simp at e;subst e;exact ⟨_,rfl,r⟩
  | _,_,i + 1,x,.cons _ t,e=>by
    obtain ⟨u,h1,h2⟩:=Vals.get (i:=i) (x:=x) t (by simpa using e)
    exact ⟨u,by simpa using h1,h2⟩
theorem Vals.set {x:V}{u:Value} (r:RelV x u):∀ {xs:List V}{us:List Value} (i:Nat),Vals xs us→Vals (xs.set i x) (us.set i u)
  | _,_,_,.nil=>.nil
  | _,_,0,.cons _ t=>.cons r t
  | _,_,i + 1,.cons q t=>.cons q (Vals.set r i t)
theorem Vals.append:∀ {xs ys:List V}{us ws:List Value},Vals xs us→Vals ys ws→Vals (xs ++ ys) (us ++ ws)
  | _,_,_,_,.nil,s=>s
  | _,_,_,_,.cons r t,s=>.cons r (Vals.append t s)
theorem Vals.take:∀ {xs:List V}{us:List Value} (n:Nat),Vals xs us→Vals (xs.take n) (us.take n)
  | _,_,0,_=>.nil
  | _,_,_ + 1,.nil=>.nil
  | _,_,n + 1,.cons r t=>.cons r (Vals.take n t)
theorem Vals.drop:∀ {xs:List V}{us:List Value} (n:Nat),Vals xs us→Vals (xs.drop n) (us.drop n)
  | _,_,0,r=>r
  | _,_,_ + 1,.nil=>.nil
  | _,_,n + 1,.cons _ t=>Vals.drop n t
noncomputable def RelO:Option V→Option Value→Prop
  | some v,some u=>RelV v u
  | none,none=>True
  | _,_=>False
noncomputable def KV {κ:Type}:List (κ × V)→List (κ × Value)→Prop:=Paired fun (p:κ × V) (q:κ × Value)=>p.1=q.1∧RelV p.2 q.2

noncomputable def kV:Key→V
  | .inl i=>.int i
  | .inr x=>.str x

inductive HO where
  /-- a list -/
  | lst (xs:List V)
  /-- a tuple (never changes) -/
  | tup (xs:List V)
  /-- a dict whose keys are ints and texts; one whose keys are tuples of ints and texts (the empty one is both) -/
  | dK (kvs:List (Key × V)) | dT (kvs:List (List Key × V))
  /-- a set of ints: its members, its size -/
  | set (S:Int→Bool) (n:Nat)
  /-- an instance of the class at C, its dict at dx, its attributes -/
  | ins (C dx:Addr) (fs:List (Str × V))
  /-- the dict of the instance at x -/
  | own (x:Addr)
  /-- the dict of an exception -/
  | xd (fs:List (Str × V))
  /-- a bound method, f of x -/
  | met (f x:Addr)
  /-- a range object lo, lo + 1, .. below hi -/
  | rng (lo hi:Int)
  /-- a thing that is known to the object (the script; a dict while a loop walks it): read, never written while it is so -/
  | frz (o:Obj) (u:HO)
  /-- a code object's table -/
  | tbl (ps:Array Value)
  /-- any other thing, by what is true of its one object (a def of one's own: SetO a S n := HO.ext fun h => ..) -/
  | ext (φ:Heap→Prop)

noncomputable abbrev Hp:=Addr→Option HO
noncomputable def upd (H:Hp) (a:Addr) (o:HO):Hp:=fun b=>if b=a then some o else H b
theorem upd_same {H:Hp}{a:Addr}{o:HO}:upd H a o a=some o:=by unfold upd;rw [if_pos rfl]
theorem upd_ne {H:Hp}{a b:Addr}{o:HO} (h:b ≠ a):upd H a o b=H b:=by unfold upd;rw [if_neg h]
theorem upd_upd {H:Hp}{a:Addr}{o u:HO}:upd (upd H a o) a u=upd H a u:=by
  funext b;unfold upd;split <;> rfl
theorem ne_of {H:Hp}{a b:Addr}{o u:HO} (h:H a=some o) (h':H b=some u) (d:o ≠ u):a ≠ b:=by
  intro e;subst e;rw [h] at h';exact d (Option.some.inj h')
theorem ne_of_none {H:Hp}{a b:Addr}{o:HO} (h:H a=some o) (h':H b=none):a ≠ b:=by
  intro e;subst e;rw [h] at h';cases h'

section
variable (P:Program) (w:World)
noncomputable def ObjOk (H:Hp) (h:Heap) (a:Addr):HO→Prop
  | .lst xs=>xs.length≤sizeLine∧∃ (its:List Value) (n:Nat),Vals xs its∧h.get? a=some { cls:=.type "list",data:=.seq its.toArray n }
  | .tup xs=>xs.length≤sizeLine∧∃ its:List Value,Vals xs its∧IsTup h a its.toArray
  | .dK kvs=>kvs.length≤sizeLine∧(a == sysModules)=false∧∃ vs,KV kvs vs∧h.DictOf (mixKind P w) a vs
  | .dT kvs=>kvs.length≤sizeLine∧(a == sysModules)=false∧∃ xs:List (List Key × Addr × Value),
      Paired (fun (p:List Key × V) (q:List Key × Addr × Value)=>p.1=q.1∧H q.2.1=some (.tup (p.1.map kV))∧RelV p.2 q.2.2) kvs xs ∧
      ∃ o es ep,h.get? a=some o∧o.ExactDict∧o.data = .dict es ep∧es.toList=xs.map (entryOfKey (tupleKind (mixKind P w)))∧(xs.map (·.1)).Nodup
  | .set S n=>h.SetOf (intKind P w) a S n
  | .ins C dx fs=>H dx=some (.own a)∧fs.length≤1000∧dx ≠ a∧h.get? a=some (PySem.W.instObj C dx) ∧
      ∃ mA,h.Ns1 dx mA∧(∀ f,RelO (fs.lookup f) (mA f))∧PySem.Within mA (fs.map (·.1))
  | .own _=>∃ o,h.get? a=some o
  | .xd fs=>∃ mA,h.Ns1 a mA∧∀ f,RelO (fs.lookup f) (mA f)
  | .rng lo hi=>∃ t u v,h.get? a=some { cls:=.type "range",data:=.fields #[.int lo t,.int hi u,.int 1 v] }
  | .frz o u=>h.get? a=some o∧ObjOk H h a u
  | .tbl ps=>h.get? a=some { cls:=.none,data:=.fields ps }
  | .met f x=>h.get? a=some (PySem.W.methodObj (.ref f) (.ref x))
  | .ext φ=>φ h∧(∃ o,h.get? a=some o)∧∀ h1 h2:Heap,φ h1→(∀ o,h1.get? a=some o→h2.get? a=some o)→φ h2
noncomputable def HOk (H:Hp) (h:Heap):Prop:=∀ a o,H a=some o→ObjOk P w H h a o
end

section
variable {P:Program}{w:World}{H H':Hp}{h h':Heap}{a:Addr}{o:HO}
theorem ObjOk.lt (x:ObjOk P w H h a o):a < h.objs.size:=by
  cases o with
  | lst xs=>obtain ⟨_,_,_,_,e⟩:=x;exact Heap.lt_size e
  | tup xs=>obtain ⟨_,_,_,p⟩:=x;exact p.lt
  | dK kvs=>obtain ⟨_,_,_,_,o,_,_,e,_⟩:=x;exact Heap.lt_size e
  | dT kvs=>obtain ⟨_,_,_,_,o,_,_,e,_⟩:=x;exact Heap.lt_size e
  | set S n=>obtain ⟨o,_,_,_,e,_⟩:=x;exact Heap.lt_size e
  | ins C dx fs=>obtain ⟨_,_,_,e,_⟩:=x;exact Heap.lt_size e
  | own y=>obtain ⟨_,e⟩:=x;exact Heap.lt_size e
  | xd fs=>obtain ⟨_,⟨_,_,_,e,_⟩,_⟩:=x;exact Heap.lt_size e
  | rng lo hi=>obtain ⟨_,_,_,e⟩:=x;exact Heap.lt_size e
  | frz ob u=>obtain ⟨e,_⟩:=x;exact Heap.lt_size e
  | tbl ps=>exact Heap.lt_size (show h.get? a=some _ from x)
  | met f y=>exact Heap.lt_size (show h.get? a=some _ from x)
  | ext φ=>obtain ⟨_,⟨_,e⟩,_⟩:=x;exact Heap.lt_size e
theorem Paired.mapP {α β:Type}{F G:α→β→Prop}:∀ {l₁:List α}{l₂:List β},Paired F l₁ l₂→(∀ a b,F a b→G a b)→Paired G l₁ l₂
  | _,_,.nil,_=>.nil
  | _,_,.cons r t,f=>.cons (f _ _ r) (Paired.mapP t f)
theorem ObjOk.stay (x:ObjOk P w H h a o) (k:∀ b u,(b=a ∨ H b=some (.own a))→h.get? b=some u→h'.get? b=some u)
    (ho:∀ b,H b=some (.own a)→H' b=some (.own a)) (ht:∀ b xs,H b=some (.tup xs)→H' b=some (.tup xs)):ObjOk P w H' h' a o:=by
  induction o with
  | lst xs=>obtain ⟨z,its,n,r,e⟩:=x;exact ⟨z,its,n,r,k _ _ (.inl rfl) e⟩
  | tup xs=>obtain ⟨z,its,r,ob,e,c⟩:=x;exact ⟨z,its,r,ob,k _ _ (.inl rfl) e,c⟩
  | dK kvs=>obtain ⟨z,y,vs,r,ob,es,ep,e,c⟩:=x;exact ⟨z,y,vs,r,ob,es,ep,k _ _ (.inl rfl) e,c⟩
  | dT kvs =>
    obtain ⟨z,y,xs,r,ob,es,ep,e,c⟩:=x
    exact ⟨z,y,xs,Paired.mapP r fun p q z=>⟨z.1,ht _ _ z.2.1,z.2.2⟩,ob,es,ep,k _ _ (.inl rfl) e,c⟩
  | set S n=>obtain ⟨ob,es,ep,t,e,c⟩:=x;exact ⟨ob,es,ep,t,k _ _ (.inl rfl) e,c⟩
  | ins C dx fs =>
    obtain ⟨d,z,ne,e,mA,⟨od,es,ep,e2,c⟩,r⟩:=x
    exact ⟨ho _ d,z,ne,k _ _ (.inl rfl) e,mA,⟨od,es,ep,k _ _ (.inr d) e2,c⟩,r⟩
  | own y=>obtain ⟨ob,e⟩:=x;exact ⟨ob,k _ _ (.inl rfl) e⟩
  | xd fs=>obtain ⟨mA,⟨od,es,ep,e,c⟩,r⟩:=x;exact ⟨mA,⟨od,es,ep,k _ _ (.inl rfl) e,c⟩,r⟩
  | rng lo hi=>obtain ⟨t,u,v,e⟩:=x;exact ⟨t,u,v,k _ _ (.inl rfl) e⟩
  | frz ob u ih=>obtain ⟨e,q⟩:=x;exact ⟨k _ _ (.inl rfl) e,ih q⟩
  | tbl ps =>
    have e:h.get? a=some { cls:=.none,data:=.fields ps }:=x
    show h'.get? a=some { cls:=.none,data:=.fields ps }
    exact k a _ (.inl rfl) e
  | met f y =>
    have e:h.get? a=some (PySem.W.methodObj (.ref f) (.ref y)):=x
    show h'.get? a=some (PySem.W.methodObj (.ref f) (.ref y))
    exact k a _ (.inl rfl) e
  | ext φ=>obtain ⟨p,⟨o,e⟩,st⟩:=x;exact ⟨st _ _ p fun o q=>k _ _ (.inl rfl) q,⟨o,k _ _ (.inl rfl) e⟩,st⟩
theorem HOk.lt (x:HOk P w H h) (e:H a=some o):a < h.objs.size:=(x a o e).lt
theorem HOk.fresh (x:HOk P w H h) (e:h.objs.size≤a):H a=none:=by
  cases q:H a with
  | none=>rfl
  | some u=>exact absurd (Nat.lt_of_lt_of_le (x.lt q) e) (Nat.lt_irrefl _)
theorem HOk.kept (x:HOk P w H h) (k:∀ b u,h.get? b=some u→h'.get? b=some u):HOk P w H h':=fun a o e =>
  (x a o e).stay (fun b u _ q=>k b u q) (fun _ q=>q) fun _ _ q=>q
theorem HOk.laid (x:HOk P w H h) (k:∀ b u,h.get? b=some u→h'.get? b=some u) (hp:h.objs.size≤a) (new:ObjOk P w (upd H a o) h' a o):HOk P w (upd H a o) h':=fun b u e=>by
  have hn:=x.fresh hp
  by_cases hb:b=a
  · subst hb;rw [upd_same] at e;cases e;exact new
  · rw [upd_ne hb] at e
    exact (x b u e).stay (fun c v _ q=>k c v q) (fun c q=>by rw [upd_ne (ne_of_none q hn)];exact q) fun c xs q=>by rw [upd_ne (ne_of_none q hn)];exact q
end

noncomputable def Rd (H:Hp) (a:Addr) (u:HO):Prop:=H a=some u ∨ ∃ o,H a=some (.frz o u)
theorem Rd.ok {P:Program}{w:World}{H:Hp}{h:Heap}{a:Addr}{u:HO} (r:Rd H a u) (x:HOk P w H h):ObjOk P w H h a u:=by
  rcases r with r | ⟨o,r⟩
  · exact x a u r
  · obtain ⟨_,q⟩:=x a _ r
    exact q
noncomputable def Mut:Option HO→Prop
  | some (.lst _)=>True
  | some (.dK _)=>True
  | some (.dT _)=>True
  | some (.set _ _)=>True
  | some (.ins _ _ _)=>True
  | some (.ext _)=>True
  | _=>False
section
variable {P:Program}{w:World}{H:Hp}{h h':Heap}{x e:Addr}{o':HO}
theorem HOk.write (ok:HOk P w H h) (mu:Mut (H x)) (he:e=x ∨ H e=some (.own x)) (k:∀ b u,b ≠ e→h.get? b=some u→h'.get? b=some u) (heo:∃ u,h'.get? e=some u)
    (new:ObjOk P w (upd H x o') h' x o'):HOk P w (upd H x o') h':=fun b u q=>by
  have nown:∀ c y,H c=some (.own y)→c ≠ x:=fun c y r z=>by subst z;rw [r] at mu;exact mu
  have ntup:∀ c xs,H c=some (.tup xs)→c ≠ x:=fun c xs r z=>by subst z;rw [r] at mu;exact mu
  by_cases hb:b=x
  · subst hb;rw [upd_same] at q;cases q;exact new
  · rw [upd_ne hb] at q
    by_cases hbe:b=e
    · have q':H b=some (.own x):=by
        rcases he with z | z
        · exact absurd (hbe.trans z) hb
        · rw [hbe];exact z
      rw [q] at q';cases q'
      obtain ⟨v,hv⟩:=heo
      exact ⟨v,by rw [hbe];exact hv⟩
    · refine (ok b u q).stay (fun c v hc r=>k c v ?_ r) (fun c r=>by rw [upd_ne (nown c b r)];exact r) fun c xs r=>by rw [upd_ne (ntup c xs r)];exact r
      rcases hc with rfl | hc
      · exact hbe
      · rintro rfl
        rcases he with z | z
        · exact nown c b hc z
        · rw [hc] at z;cases z;exact hb rfl
end

/-! ### kept unless tracked; of the frames at fs (the callers') the slots may change (an exception that passes writes there); of the records at ex (iterators) nothing is said -/
structure Un (fs ex:List Addr) (H H':Hp) (h h':Heap):Prop where
  keep:∀ b o,h.get? b=some o→H b=none→b ∉ fs→b ∉ ex→h'.get? b=some o
  slot:∀ b o,h.get? b=some o→H b=none→b ∈ fs→b ∉ ex→∃ sl,h'.get? b=some { o with slots:=sl }
  free:∀ b o,h.get? b=some o→H b=none→b ∉ ex→H' b=none
  there:∀ b o,h.get? b=some o→b ∉ ex→∃ o',h'.get? b=some o'
  tups:∀ b xs,H b=some (.tup xs)→H' b=some (.tup xs)
  frzs:∀ b o u,H b=some (.frz o u)→H' b=some (.frz o u)
  tbls:∀ b ps,H b=some (.tbl ps)→∃ more,H' b=some (.tbl (ps ++ more))
section
variable {fs fs' ex ex':List Addr}{H H1 H2:Hp}{h h1 h2 h':Heap}{a x e:Addr}{o:HO}
theorem Un.any (u:Un fs ex H H1 h h1) {b:Addr}{ob:Obj} (q:h.get? b=some ob) (n:H b=none) (hx:b ∉ ex):∃ sl,h1.get? b=some { ob with slots:=sl }:=by
  by_cases hb:b ∈ fs
  · exact u.slot b ob q n hb hx
  · exact ⟨ob.slots,u.keep b ob q n hb hx⟩
theorem Un.kept (k:∀ b u,h.get? b=some u→h'.get? b=some u):Un fs ex H H h h':=
  ⟨fun b ob q _ _ _=>k b ob q,fun b ob q _ _ _=>⟨ob.slots,k b ob q⟩,fun _ _ _ n _=>n,fun b ob q _=>⟨ob,k b ob q⟩,fun _ _ q=>q,fun _ _ _ q=>q,fun _ ps q=>⟨#[],by rw [q];simp⟩⟩
theorem Un.refl:Un fs ex H H h h:=Un.kept fun _ _ q=>q
theorem Un.laid (k:∀ b u,h.get? b=some u→h'.get? b=some u) (hp:h.objs.size≤a) (hn:H a=none):Un fs ex H (upd H a o) h h' where
  keep:=fun b u q _ _ _=>k b u q
  slot:=fun b u q _ _ _=>⟨u.slots,k b u q⟩
  free:=fun b u q n _=>by rw [upd_ne (Nat.ne_of_lt (Nat.lt_of_lt_of_le (Heap.lt_size q) hp))];exact n
  there:=fun b u q _=>⟨u,k b u q⟩
  tups:=fun b xs q=>by rw [upd_ne (ne_of_none q hn)];exact q
  frzs:=fun b u xs q=>by rw [upd_ne (ne_of_none q hn)];exact q
  tbls:=fun b ps q=>⟨#[],by rw [upd_ne (ne_of_none q hn),q];simp⟩
theorem Un.write (mu:Mut (H x)) (he:e=x ∨ H e=some (.own x)) (k:∀ b u,b ≠ e→h.get? b=some u→h'.get? b=some u) (heo:∃ u,h'.get? e=some u):Un fs ex H (upd H x o) h h':=by
  have hx:∀ b,H b=none→b ≠ x:=fun b n z=>by subst z;rw [n] at mu;exact mu
  have hb:∀ b,H b=none→b ≠ e:=fun b n z=>by
    subst z
    rcases he with r | r
    · exact hx b n r
    · rw [n] at r;cases r
  have hm:∀ b u,H b=some u→¬ Mut (some u)→b ≠ x:=fun b u q nm z=>by subst z;rw [q] at mu;exact nm mu
  refine ⟨fun b u q n _ _=>k b u (hb b n) q,fun b u q n _ _=>⟨u.slots,k b u (hb b n) q⟩,fun b u q n _=>by rw [upd_ne (hx b n)];exact n,fun b u q _=>?_,
    fun b xs q=>by rw [upd_ne (hm b _ q fun z=>z)];exact q,fun b u xs q=>by rw [upd_ne (hm b _ q fun z=>z)];exact q,fun b ps q=>⟨#[],by rw [upd_ne (hm b _ q fun z=>z),q];simp⟩⟩
  by_cases hbe:b=e
  · subst hbe;exact heo
  · exact ⟨u,k b u hbe q⟩
end

/-! ### the heap without what is tracked -/
noncomputable def trk (h:Heap) (H:Hp):List Addr:=(List.range h.objs.size).filter fun a=>(H a).isSome
noncomputable def hidT (h:Heap) (H:Hp):Heap:=PySem.W.hideAll h (trk h H)
theorem hidT_size (h:Heap) (H:Hp):(hidT h H).objs.size=h.objs.size:=PySem.W.hideAll_size _ _
theorem hidT_get {h:Heap}{H:Hp}{b:Addr}{o:Obj} (e:h.get? b=some o) (n:H b=none):(hidT h H).get? b=some o:=
  PySem.W.hideAll_get _ e fun hm=>by
    have q:(H b).isSome=true:=(List.mem_filter.mp hm).2
    rw [n] at q;simp at q
theorem of_hidT {h:Heap}{H:Hp}{b:Addr}{o:Obj} (e:(hidT h H).get? b=some o):h.get? b=some o∧H b=none:=by
  have e':h.get? b=some o:=PySem.W.of_hideAll (trk h H) e
  refine ⟨e',?_⟩
  cases q:H b with
  | none=>rfl
  | some x =>
    have hm:b ∈ trk h H:=List.mem_filter.mpr ⟨List.mem_range.mpr (Heap.lt_size e'),by simp [q]⟩
    have z:(hidT h H).get? b=none:=PySem.W.hideAll_none (trk h H) hm
    rw [z] at e;cases e

/-! ### OpenK's ledger, filled with every new object but one -/
noncomputable def allNews (g h:Heap) (L:Addr):List (Addr × Obj):=(List.range h.objs.size).filterMap fun a=>if a=L ∨ (g.get? a).isSome=true then none else (h.get? a).map fun o=>(a,o)
noncomputable def rest (g h:Heap) (L d:Addr):List (Addr × Obj):=(allNews g h L).filter fun p=>decide (p.1 ≠ d)
end L2

namespace L2
open PySem PySem.Spec PyProof.Rows

structure Mod (K:PySem.W.Frag) (mg:Str→Option Value) (base:Heap):Prop where
  kin:K.In base
  glob:base.Ns mainGlobals mg
  blt:∃ mb,base.Ns builtinsNs mb∧∀ x:Str,x ≠ "__name__"→mb x=bootBuiltins x
  nolimit:base.NoLimit

/-- the context: a def's body (or a comprehension's block) running. base: fixed through the whole law; s₀, H₀: the entry; outer: the frames whose slots others may change (a def's callers); stack: all frames that run;
   ex: iterators that were made ahead of the entry and are walked here (a comprehension's);fn: the names whose cells were made at the entry (a def: all;a comprehension's block: its own);calm: not within an except suite;pn: pins that every state bears;xe: what is wanted of an exception that leaves the code -/
structure Cx where
  prog:Program
  w:World
  K:PySem.W.Frag
  mg:Str→Option Value
  base:Heap
  A:Around
  N:List Str
  s₀:Shared
  H₀:Hp
  env:Env
  outer:List Env
  stack:List Env
  ex:List Addr
  fn:Str→Bool
  calm:Bool
  pn:List (Addr × Obj)
  xe:Value→Shared→Prop
noncomputable def frs (l:List Env):List Addr:=l.filterMap (·.frame)
noncomputable abbrev Cx.fs (X:Cx):List Addr:=frs X.outer

noncomputable def Vis (sc:Scope) (x:Str):Prop:=sc.names.lookup x=some .local ∨ sc.names.lookup x=some .cell ∨ sc.names.lookup x=some .free
noncomputable def Loc (sc:Scope) (x:Str):Prop:=sc.names.lookup x=some .local ∨ sc.names.lookup x=some .cell
noncomputable def Look (env:Env) (h:Heap) (m:Str→Option Value) (x:Str) (u:Value):Prop:=
  (env.kindOf x=some .local∧m x=some u) ∨ ((env.kindOf x=some .cell ∨ env.kindOf x=some .free)∧∃ c,env.cells.lookup x=some c∧h.IsCell c (some u))

structure Cx.Ok (X:Cx):Prop where
  mod:Mod X.K X.mg X.base
  kind:X.env.scope.kind = .function
  glob:X.env.globals=mainGlobals
  blt:X.env.builtins=builtinsNs
  above:X.s₀.heap.objs.size≤X.env.locals
  inj:∀ x y c,X.env.cells.lookup x=some c→X.env.cells.lookup y=some c→x=y
  has:∀ x,(X.env.kindOf x=some .cell ∨ X.env.kindOf x=some .free)→∃ c,X.env.cells.lookup x=some c
  cab:∀ x c,X.fn x=true→X.env.cells.lookup x=some c→X.s₀.heap.objs.size≤c
  hd:X.calm=true→X.A.handled=none
  frames:X.A.frames=some X.stack
  stk:X.stack=X.outer ∨ (X.stack=X.env :: X.outer∧X.env.frame=some X.env.locals)
  exf:∀ b ∈ X.ex,b ≠ X.env.locals∧∀ x c,X.env.cells.lookup x=some c→c ≠ b
  bs:∀ b o,X.base.get? b=some o→X.s₀.heap.get? b=some o∧X.H₀ b=none
  bsz:X.base.objs.size≤X.s₀.heap.objs.size
  noex:∀ b o,X.base.get? b=some o→b ∉ X.ex
  exfs:∀ b ∈ X.ex,b ∉ X.fs
  funs:X.s₀.heap.FunFrames X.base X.outer
  frf:∀ b ∈ X.fs,X.H₀ b=none

structure Inv (X:Cx) (pins:List (Addr × Obj)) (σ:List (Option V)) (H:Hp) (s:Shared):Prop where
  ok:X.Ok
  os:s.os=X.s₀.os
  bare:AllBare s.gens
  base:Un X.fs X.ex X.H₀ H X.s₀.heap s.heap
  loc:∃ m,s.heap.Ns X.env.locals m∧∀ (i:Nat) (x:Str) (v:V),X.N[i]?=some x→σ[i]?=some (some v)→Vis X.env.scope x→∃ u,RelV v u∧Look X.env s.heap m x u
  cell:∀ x c,X.env.cells.lookup x=some c→∃ v,s.heap.IsCell c v
  free:H X.env.locals=none
  freeC:∀ x c,X.env.cells.lookup x=some c→H c=none
  pin:∀ p ∈ X.pn ++ pins,s.heap.get? p.1=some p.2∧H p.1=none∧p.1 ≠ X.env.locals∧p.1 ∉ X.fs∧∀ v,p.2.data ≠ .cell v
  hok:HOk X.prog X.w H s.heap
  len:σ.length=X.N.length

section
variable {X:Cx}{pins:List (Addr × Obj)}{σ:List (Option V)}{H H':Hp}{s:Shared}{h':Heap}

theorem Cx.Ok.nofr (ok:X.Ok) {b:Addr}{o:Obj} (e:X.base.get? b=some o):b ∉ X.fs:=fun hb=>by
  have:=(ok.funs.mem hb).1
  rw [e] at this;cases this
theorem Inv.bs (I:Inv X pins σ H s):∀ b o,X.base.get? b=some o→s.heap.get? b=some o∧H b=none:=fun b o e =>
  ⟨I.base.keep b o (I.ok.bs b o e).1 (I.ok.bs b o e).2 (I.ok.nofr e) (I.ok.noex b o e),I.base.free b o (I.ok.bs b o e).1 (I.ok.bs b o e).2 (I.ok.noex b o e)⟩
theorem Inv.bk (I:Inv X pins σ H s):∀ b o,X.base.get? b=some o→s.heap.get? b=some o:=fun b o e=>(I.bs b o e).1
theorem Inv.mod (I:Inv X pins σ H s):Mod X.K X.mg X.base:=I.ok.mod
theorem Inv.kIn (I:Inv X pins σ H s):X.K.In s.heap:=I.ok.mod.kin.keeps I.bk
theorem Inv.lt (I:Inv X pins σ H s):X.env.locals < s.heap.objs.size:=let ⟨_,hn,_⟩:=I.loc;hn.lt
theorem Inv.sz (I:Inv X pins σ H s):X.s₀.heap.objs.size≤s.heap.objs.size:=Nat.le_trans I.ok.above (Nat.le_of_lt I.lt)
theorem Inv.nofs (I:Inv X pins σ H s) {a:Addr} (h:s.heap.objs.size≤a):a ∉ X.fs:=fun hb=>by
  obtain ⟨_,o,ho,_⟩:=I.ok.funs.mem hb
  exact absurd (Nat.lt_of_lt_of_le (Heap.lt_size ho) (Nat.le_trans I.sz h)) (Nat.lt_irrefl _)
theorem Inv.cne (I:Inv X pins σ H s):∀ x c,X.env.cells.lookup x=some c→c ≠ X.env.locals:=fun x c e z=>by
  obtain ⟨v,o,ho,hd⟩:=I.cell x c e
  obtain ⟨m,⟨o',es,ep,ho',hd',_⟩,_⟩:=I.loc
  rw [z,ho'] at ho;cases ho;rw [hd'] at hd;cases hd
theorem Inv.funs (I:Inv X pins σ H s):s.heap.FunFrames X.base X.outer:=by
  have all:∀ (l:List Env),(∀ b ∈ frs l,b ∈ X.fs)→X.s₀.heap.FunFrames X.base l→s.heap.FunFrames X.base l:=by
    intro l
    induction l with
    | nil=>intro _ _;trivial
    | cons env r ih =>
      intro hs hl
      obtain ⟨hk,⟨L,o,hf,hn,ho,hd⟩,hr⟩:=hl
      have hL:L ∈ X.fs:=hs L (by unfold frs;rw [List.filterMap_cons,hf];exact List.mem_cons_self)
      obtain ⟨sl,e⟩:=I.base.slot L o ho (I.ok.frf L hL) hL fun z=>I.ok.exfs L z hL
      exact ⟨hk,⟨L,_,hf,hn,e,hd⟩,ih (fun b hb=>hs b (by unfold frs;rw [List.filterMap_cons,hf];exact List.mem_cons_of_mem _ hb)) hr⟩
  exact all X.outer (fun _ hb=>hb) I.ok.funs

theorem Inv.stack (I:Inv X pins σ H s):s.heap.FunFrames X.base X.stack:=by
  rcases I.ok.stk with e | ⟨e,hf⟩
  · rw [e];exact I.funs
  · rw [e]
    obtain ⟨m,hn,_⟩:=I.loc
    refine .cons (by rw [I.ok.kind];decide) hf hn ?_ I.funs
    exact Heap.get?_none_of_le (Nat.le_trans I.ok.bsz I.ok.above)
theorem Inv.stkSub (I:Inv X pins σ H s):∀ b ∈ frs X.stack,b ∈ X.env.locals :: X.fs:=fun b hb=>by
  rcases I.ok.stk with e | ⟨e,hf⟩
  · rw [e] at hb;exact List.mem_cons_of_mem _ hb
  · rw [e] at hb
    unfold frs at hb
    rw [List.filterMap_cons,hf] at hb
    exact hb
theorem Inv.stkFree (I:Inv X pins σ H s):∀ b ∈ frs X.stack,H b=none:=fun b hb=>by
  rcases List.mem_cons.mp (I.stkSub b hb) with e | hb
  · rw [e];exact I.free
  · obtain ⟨_,o,ho,_⟩:=I.ok.funs.mem hb
    exact I.base.free b o ho (I.ok.frf b hb) fun z=>I.ok.exfs b z hb

theorem Inv.step {g':Array GenState}{t':Nat}{d':Drawn}{ch:List Addr} (I:Inv X pins σ H s)
    (hch:∀ b ∈ ch,(b ∈ X.ex ∨ X.s₀.heap.objs.size≤b)∧b ≠ X.env.locals∧(∀ x c,X.env.cells.lookup x=some c→c ≠ b)∧∀ p ∈ X.pn ++ pins,p.1 ≠ b)
    (keep:∀ b o,b ≠ X.env.locals→b ∉ X.fs→b ∉ ch→s.heap.get? b=some o→H b=none→h'.get? b=some o)
    (slot:∀ b o,b ≠ X.env.locals→b ∈ X.fs→b ∉ ch→s.heap.get? b=some o→H b=none→∃ sl,h'.get? b=some { o with slots:=sl }) (free:∀ b o,b ∉ ch→s.heap.get? b=some o→H b=none→H' b=none)
    (there:∀ b o,b ∉ ch→s.heap.get? b=some o→∃ o',h'.get? b=some o')
    (tups:∀ b xs,H b=some (.tup xs)→H' b=some (.tup xs)) (frzs:∀ b o u,H b=some (.frz o u)→H' b=some (.frz o u)) (tbls:∀ b ps,H b=some (.tbl ps)→∃ more,H' b=some (.tbl (ps ++ more)))
    (ns:∀ m,s.heap.Ns X.env.locals m→h'.Ns X.env.locals m) (hok:HOk X.prog X.w H' h') (hg:AllBare g') :
    Inv X pins σ H' { s with heap:=h',gens:=g',drawn:=d',toks:=t' }:=by
  have neL:∀ b o,X.s₀.heap.get? b=some o→b ≠ X.env.locals:=fun b o e=>Nat.ne_of_lt (Nat.lt_of_lt_of_le (Heap.lt_size e) I.ok.above)
  have neC:∀ b o,X.s₀.heap.get? b=some o→b ∉ X.ex→b ∉ ch:=fun b o e hx hb=>by
    rcases (hch b hb).1 with z | z
    · exact hx z
    · exact absurd (Nat.lt_of_lt_of_le (Heap.lt_size e) z) (Nat.lt_irrefl _)
  have cellK:∀ x c,X.env.cells.lookup x=some c→∀ v,s.heap.IsCell c v→h'.IsCell c v:=fun x c e v ⟨o,ho,hd⟩=>by
    have nch:c ∉ ch:=fun z=>(hch c z).2.2.1 x c e rfl
    by_cases hc:c ∈ X.fs
    · obtain ⟨sl,q⟩:=slot c o (I.cne x c e) hc nch ho (I.freeC x c e)
      exact ⟨_,q,hd⟩
    · exact ⟨o,keep c o (I.cne x c e) hc nch ho (I.freeC x c e),hd⟩
  refine ⟨I.ok,I.os,hg,⟨fun b o e n hb hx=>?_,fun b o e n hb hx=>?_,fun b o e n hx=>?_,fun b o e hx=>?_,fun b xs e=>tups b xs (I.base.tups b xs e),fun b o xs e=>frzs b o xs (I.base.frzs b o xs e),fun b ps e=>?_⟩,?_,fun x c e=>?_,?_,fun x c e=>?_,fun p hp=>?_,hok,I.len⟩
  · exact keep b o (neL b o e) hb (neC b o e hx) (I.base.keep b o e n hb hx) (I.base.free b o e n hx)
  · obtain ⟨sl,e1⟩:=I.base.slot b o e n hb hx
    obtain ⟨sl',e2⟩:=slot b _ (neL b o e) hb (neC b o e hx) e1 (I.base.free b o e n hx)
    exact ⟨sl',e2⟩
  · obtain ⟨o',e1⟩:=I.base.there b o e hx
    exact free b o' (neC b o e hx) e1 (I.base.free b o e n hx)
  · obtain ⟨o',e1⟩:=I.base.there b o e hx
    exact there b o' (neC b o e hx) e1
  · obtain ⟨m1,e1⟩:=I.base.tbls b ps e
    obtain ⟨m2,e2⟩:=tbls b _ e1
    exact ⟨m1 ++ m2,by rw [e2,Array.append_assoc]⟩
  · obtain ⟨m,hn,hl⟩:=I.loc
    refine ⟨m,ns m hn,fun i x v e1 e2 e3=>?_⟩
    obtain ⟨u,r,l⟩:=hl i x v e1 e2 e3
    refine ⟨u,r,?_⟩
    rcases l with l | ⟨k,c,e,z⟩
    · exact .inl l
    · exact .inr ⟨k,c,e,cellK x c e _ z⟩
  · obtain ⟨v,z⟩:=I.cell x c e
    exact ⟨v,cellK x c e v z⟩
  · obtain ⟨m,⟨o,_,_,ho,_⟩,_⟩:=I.loc
    exact free _ o (fun z=>(hch _ z).2.1 rfl) ho I.free
  · obtain ⟨v,o,ho,hd⟩:=I.cell x c e
    exact free c o (fun z=>(hch c z).2.2.1 x c e rfl) ho (I.freeC x c e)
  · obtain ⟨e,n,ne,nf,d⟩:=I.pin p hp
    have nch:p.1 ∉ ch:=fun z=>(hch p.1 z).2.2.2 p hp rfl
    exact ⟨keep p.1 p.2 ne nf nch e n,free p.1 p.2 nch e n,ne,nf,d⟩
theorem Inv.un {t':Nat} (I:Inv X pins σ H s) (u:Un X.fs [] H H' s.heap h') (hok:HOk X.prog X.w H' h'):Inv X pins σ H' { s with heap:=h',toks:=t' }:=by
  obtain ⟨m,⟨o,es,ep,ho,r⟩,_⟩:=id I.loc
  obtain ⟨sl,hL⟩:=u.any ho I.free (by simp)
  exact I.step (g':=s.gens) (d':=s.drawn) (ch:=[]) (fun _ z=>nomatch z) (fun b o _ hb _ e n=>u.keep b o e n hb (by simp)) (fun b o _ hb _ e n=>u.slot b o e n hb (by simp)) (fun b o _ e n=>u.free b o e n (by simp)) (fun b o _ e=>u.there b o e (by simp)) u.tups u.frzs u.tbls (fun m' hm=>by
    obtain ⟨o',es',ep',ho',r'⟩:=hm
    rw [ho] at ho';cases ho'
    exact ⟨_,es',ep',hL,r'⟩) hok I.bare
theorem Inv.call {g':Array GenState}{t':Nat}{d':Drawn}{ch:List Addr} (I:Inv X pins σ H s) (u:Un (frs X.stack) ch H H' s.heap h') (hok:HOk X.prog X.w H' h') (hg:AllBare g')
    (hch:∀ b ∈ ch,(b ∈ X.ex ∨ X.s₀.heap.objs.size≤b)∧b ≠ X.env.locals∧(∀ x c,X.env.cells.lookup x=some c→c ≠ b)∧∀ p ∈ X.pn ++ pins,p.1 ≠ b) :
    Inv X pins σ H' { s with heap:=h',gens:=g',drawn:=d',toks:=t' }:=by
  obtain ⟨m,⟨o,es,ep,ho,r⟩,_⟩:=id I.loc
  obtain ⟨sl,hL⟩:=u.any ho I.free fun z=>(hch _ z).2.1 rfl
  exact I.step (ch:=ch) hch (fun b o hL hb hc e n=>u.keep b o e n (fun z=>(List.mem_cons.mp (I.stkSub b z)).elim hL hb) hc) (fun b o _ _ hc e n=>u.any e n hc) (fun b o hc e n=>u.free b o e n hc) (fun b o hc e=>u.there b o e hc) u.tups u.frzs u.tbls (fun m' hm=>by
    obtain ⟨o',es',ep',ho',r'⟩:=hm
    rw [ho] at ho';cases ho'
    exact ⟨_,es',ep',hL,r'⟩) hok hg
theorem Inv.turned {t':Nat}{it:Addr} (I:Inv X pins σ H s) (k:∀ b o,b ≠ it→s.heap.get? b=some o→h'.get? b=some o) (hn:H it=none) (hL:it ≠ X.env.locals)
    (h1:it ∈ X.ex ∨ X.s₀.heap.objs.size≤it) (h2:∀ x c,X.env.cells.lookup x=some c→c ≠ it) (h3:∀ p ∈ X.pn ++ pins,p.1 ≠ it):Inv X pins σ H { s with heap:=h',toks:=t' }:=by
  have nit:∀ b u,H b=some u→b ≠ it:=fun b u e z=>by rw [z,hn] at e;cases e
  refine I.step (g':=s.gens) (d':=s.drawn) (ch:=[it]) (fun b hb=>?_) (fun b o _ _ hc e _=>k b o (fun z=>hc (by simp [z])) e) (fun b o _ _ hc e _=>⟨o.slots,k b o (fun z=>hc (by simp [z])) e⟩) (fun _ _ _ _ n=>n)
    (fun b o hc e=>⟨o,k b o (fun z=>hc (by simp [z])) e⟩) (fun _ _ e=>e) (fun _ _ _ e=>e) (fun b ps e=>⟨#[],by rw [e];simp⟩) (fun m hm=>?_) (fun b u e=>?_) I.bare
  · have e:b=it:=by simpa using hb
    subst e
    exact ⟨h1,hL,h2,h3⟩
  · obtain ⟨o,es,ep,ho,r⟩:=hm
    exact ⟨o,es,ep,k _ o (Ne.symm hL) ho,r⟩
  · refine (I.hok b u e).stay (fun c v hc q=>k c v ?_ q) (fun _ q=>q) fun _ _ q=>q
    rcases hc with z | z
    · rw [z];exact nit b u e
    · exact nit c _ z
theorem Inv.tok (I:Inv X pins σ H s) (t:Nat):Inv X pins σ H { s with toks:=t }:=I.un (h':=s.heap) (t':=t) Un.refl I.hok
theorem Inv.kept {t':Nat} (I:Inv X pins σ H s) (k:∀ b u,s.heap.get? b=some u→h'.get? b=some u):Inv X pins σ H { s with heap:=h',toks:=t' }:=I.un (Un.kept k) (I.hok.kept k)
theorem Inv.laid {a:Addr}{o:HO}{t':Nat} (I:Inv X pins σ H s) (k:∀ b u,s.heap.get? b=some u→h'.get? b=some u) (hp:s.heap.objs.size≤a) (new:ObjOk X.prog X.w (upd H a o) h' a o) :
    Inv X pins σ (upd H a o) { s with heap:=h',toks:=t' }:=I.un (Un.laid k hp (I.hok.fresh hp)) (I.hok.laid k hp new)
theorem Inv.write {x e:Addr}{o:HO}{t':Nat} (I:Inv X pins σ H s) (mu:Mut (H x)) (he:e=x ∨ H e=some (.own x)) (k:∀ b u,b ≠ e→s.heap.get? b=some u→h'.get? b=some u) (heo:∃ u,h'.get? e=some u)
    (new:ObjOk X.prog X.w (upd H x o) h' x o):Inv X pins σ (upd H x o) { s with heap:=h',toks:=t' }:=I.un (Un.write mu he k heo) (I.hok.write mu he k heo new)
theorem Inv.pins_of {pins':List (Addr × Obj)} (I:Inv X pins σ H s) (h:∀ p ∈ pins',s.heap.get? p.1=some p.2∧H p.1=none∧p.1 ≠ X.env.locals∧p.1 ∉ X.fs∧∀ v,p.2.data ≠ .cell v):Inv X pins' σ H s:=
  ⟨I.ok,I.os,I.bare,I.base,I.loc,I.cell,I.free,I.freeC,fun p hp=>(List.mem_append.mp hp).elim (fun z=>I.pin p (List.mem_append_left _ z)) (h p),I.hok,I.len⟩

theorem nodup_ix {N:List Str} (hN:N.Nodup) {i j:Nat}{x:Str} (a:N[i]?=some x) (b:N[j]?=some x):i=j:=by
  obtain ⟨h1,e1⟩:=List.getElem?_eq_some_iff.mp a
  obtain ⟨h2,e2⟩:=List.getElem?_eq_some_iff.mp b
  exact (List.getElem_inj hN).mp (e1.trans e2.symm)

theorem store_ok2 {M:Model}{A:Around}{E:Value→Shared→Prop}{i:Nat}{x:Str}{v:V}{u:Value}{Q:Unit→Shared→Prop} (I:Inv X pins σ H s) (hN:X.N.Nodup) (hi:X.N[i]?=some x) (hx:Loc X.env.scope x) (r:RelV v u)
    (h:∀ s',Inv X pins (σ.set i (some v)) H s'→(∃ a,Heap.SameBut a s.heap s'.heap∧(a=X.env.locals ∨ X.env.cells.lookup x=some a))→Q () s') (hf:X.fn x=true ∨ X.env.scope.names.lookup x=some .local:=by first | exact .inl rfl | exact .inr rfl | assumption):wpAny M A (storeName X.env x u) Q E s:=by
  obtain ⟨m,hn,hl⟩:=id I.loc
  have hcls:(X.env.scope.kind == .class || (X.env.scope.kind == .module && X.env.locals != X.env.globals))=false:=by rw [I.ok.kind];rfl
  have hiσ:i < σ.length:=by rw [I.len];exact (List.getElem?_eq_some_iff.mp hi).1
  have cne:=I.cne
  have tracked:∀ {a:Addr}{h':Heap},(∃ o,s.heap.get? a=some o∧H a=none)→Heap.SameBut a s.heap h'→HOk X.prog X.w H h':=fun {a h'} ha hs b ob e=>by
    obtain ⟨_,_,hfree⟩:=ha
    refine (I.hok b ob e).stay (fun c w' hc q=>(hs.2 c ?_).trans q) (fun _ q=>q) fun _ _ q=>q
    rintro rfl
    rcases hc with rfl | hc
    · rw [hfree] at e;cases e
    · rw [hfree] at hc;cases hc
  rcases hx with hk | hk
  · refine wpAny_storeName_local hk hn (fun h' hn' hs=>?_) hcls
    obtain ⟨oL,_,_,hoL,_⟩:=id hn
    refine h _ ⟨I.ok,I.os,I.bare,⟨fun b o e n hb hx=>?_,fun b o e n hb hx=>?_,I.base.free,fun b o e hx=>?_,I.base.tups,I.base.frzs,I.base.tbls⟩,⟨_,hn',fun j y v' e1 e2 e3=>?_⟩,fun y c e=>?_,I.free,I.freeC,fun p hp=>?_,tracked ⟨oL,hoL,I.free⟩ hs,by simpa using I.len⟩ ⟨_,hs,.inl rfl⟩
    · exact (hs.2 b (Nat.ne_of_lt (Nat.lt_of_lt_of_le (Heap.lt_size e) I.ok.above))).trans (I.base.keep b o e n hb hx)
    · obtain ⟨sl,e1⟩:=I.base.slot b o e n hb hx
      exact ⟨sl,(hs.2 b (Nat.ne_of_lt (Nat.lt_of_lt_of_le (Heap.lt_size e) I.ok.above))).trans e1⟩
    · obtain ⟨o',e1⟩:=I.base.there b o e hx
      exact ⟨o',(hs.2 b (Nat.ne_of_lt (Nat.lt_of_lt_of_le (Heap.lt_size e) I.ok.above))).trans e1⟩
    · by_cases hj:j=i
      · subst hj
        rw [hi] at e1;cases e1
        rw [List.getElem?_set_self hiσ] at e2
        cases e2
        exact ⟨u,r,.inl ⟨hk,by simp⟩⟩
      · rw [List.getElem?_set_ne (Ne.symm hj)] at e2
        obtain ⟨u',r',q⟩:=hl j y v' e1 e2 e3
        refine ⟨u',r',?_⟩
        rcases q with ⟨k,e⟩ | ⟨k,c,e,z⟩
        · refine .inl ⟨k,?_⟩
          have:y ≠ x:=fun e=>hj (nodup_ix hN e1 (e ▸ hi))
          simp [this,e]
        · exact .inr ⟨k,c,e,z.sameBut hs (cne y c e)⟩
    · obtain ⟨w',z⟩:=I.cell y c e
      exact ⟨w',z.sameBut hs (cne y c e)⟩
    · obtain ⟨e,n,ne,nf,d⟩:=I.pin p hp
      exact ⟨(hs.2 p.1 ne).trans e,n,ne,nf,d⟩
  · have hfn:X.fn x=true:=by
      rcases hf with z | z
      · exact z
      · rw [z] at hk;cases hk
    obtain ⟨c,hc⟩:=I.ok.has x (.inl hk)
    obtain ⟨w',z⟩:=I.cell x c hc
    refine wpAny_storeName_cell I.ok.kind hk hc z (fun h' hc' hs=>?_)
    obtain ⟨oc,hoc,hocd⟩:=id z
    refine h { s with heap:=h' } ⟨I.ok,I.os,I.bare,⟨fun b o e n hb hx=>?_,fun b o e n hb hx=>?_,I.base.free,fun b o e hx=>?_,I.base.tups,I.base.frzs,I.base.tbls⟩,⟨m,hn.sameBut hs (Ne.symm (cne x c hc)),fun j y v' e1 e2 e3=>?_⟩,fun y c' e=>?_,I.free,I.freeC,fun p hp=>?_,tracked ⟨oc,hoc,I.freeC x c hc⟩ hs,by simpa using I.len⟩ ⟨c,hs,.inr hc⟩
    · exact (hs.2 b (Nat.ne_of_lt (Nat.lt_of_lt_of_le (Heap.lt_size e) (I.ok.cab x c hfn hc)))).trans (I.base.keep b o e n hb hx)
    · obtain ⟨sl,e1⟩:=I.base.slot b o e n hb hx
      exact ⟨sl,(hs.2 b (Nat.ne_of_lt (Nat.lt_of_lt_of_le (Heap.lt_size e) (I.ok.cab x c hfn hc)))).trans e1⟩
    · obtain ⟨o',e1⟩:=I.base.there b o e hx
      exact ⟨o',(hs.2 b (Nat.ne_of_lt (Nat.lt_of_lt_of_le (Heap.lt_size e) (I.ok.cab x c hfn hc)))).trans e1⟩
    · by_cases hj:j=i
      · subst hj
        rw [hi] at e1;cases e1
        rw [List.getElem?_set_self hiσ] at e2
        cases e2
        exact ⟨u,r,.inr ⟨.inl hk,c,hc,hc'⟩⟩
      · rw [List.getElem?_set_ne (Ne.symm hj)] at e2
        obtain ⟨u',r',q⟩:=hl j y v' e1 e2 e3
        refine ⟨u',r',?_⟩
        rcases q with q | ⟨k,c',e,z'⟩
        · exact .inl q
        · refine .inr ⟨k,c',e,z'.sameBut hs ?_⟩
          rintro rfl
          exact hj (nodup_ix hN e1 (I.ok.inj _ _ _ e hc ▸ hi))
    · by_cases hcc:c'=c
      · subst hcc;exact ⟨_,hc'⟩
      · obtain ⟨w2,z2⟩:=I.cell y c' e
        exact ⟨w2,z2.sameBut hs hcc⟩
    · obtain ⟨e,n,ne,nf,d⟩:=I.pin p hp
      refine ⟨(hs.2 p.1 ?_).trans e,n,ne,nf,d⟩
      intro q
      rw [q,hoc] at e
      have q':oc=p.2:=Option.some.inj e
      exact d w' (by rw [← q'];exact hocd)
theorem store_ok {M:Model}{A:Around}{E:Value→Shared→Prop}{i:Nat}{x:Str}{v:V}{u:Value}{Q:Unit→Shared→Prop} (I:Inv X pins σ H s) (hN:X.N.Nodup) (hi:X.N[i]?=some x) (hx:Loc X.env.scope x) (r:RelV v u)
    (h:∀ s',Inv X pins (σ.set i (some v)) H s'→Q () s') (hf:X.fn x=true ∨ X.env.scope.names.lookup x=some .local:=by first | exact .inl rfl | exact .inr rfl | assumption):wpAny M A (storeName X.env x u) Q E s:=
  store_ok2 I hN hi hx r (fun s' I' _=>h s' I') hf
theorem Inv.call' {s':Shared}{ch:List Addr} (I:Inv X pins σ H s) (ho:s'.os=s.os) (u:Un (frs X.stack) ch H H' s.heap s'.heap) (hok:HOk X.prog X.w H' s'.heap) (hg:AllBare s'.gens)
    (hch:∀ b ∈ ch,(b ∈ X.ex ∨ X.s₀.heap.objs.size≤b)∧b ≠ X.env.locals∧(∀ x c,X.env.cells.lookup x=some c→c ≠ b)∧∀ p ∈ X.pn ++ pins,p.1 ≠ b):Inv X pins σ H' s':=by
  obtain ⟨h',g',d',t',o'⟩:=s'
  have e:o'=s.os:=ho
  subst e
  exact I.call (g':=g') (t':=t') (d':=d') u hok hg hch
end

/-! ### the judgements -/
noncomputable abbrev XK:=Value→Option Addr→Hp→Prop
noncomputable abbrev St:=List (Option V)
noncomputable abbrev VK:=V→Hp→Prop
noncomputable abbrev TE:=St→Hp→VK→Prop
noncomputable abbrev TT:=St→Hp→(Bool→Hp→Prop)→Prop
noncomputable abbrev TA:=St→Hp→(List V→Hp→Prop)→Prop
structure Ends where
  nx:St→Hp→Prop
  rt:VK
  bk:St→Hp→Prop:=fun _ _=>False
  ct:St→Hp→Prop:=fun _ _=>False
noncomputable abbrev TS:=Ends→St→Hp→Prop

noncomputable def EP (X:Cx) (pins:List (Addr × Obj)) (σ:St) (Q:VK) (u:Value) (s':Shared):Prop:=∃ v H',Inv X pins σ H' s'∧RelV v u∧Q v H'
noncomputable def TP (X:Cx) (pins:List (Addr × Obj)) (σ:St) (Q:Bool→Hp→Prop) (b:Bool) (s':Shared):Prop:=∃ H',Inv X pins σ H' s'∧Q b H'
noncomputable def AP (X:Cx) (pins:List (Addr × Obj)) (σ:St) (Q:List V→Hp→Prop) (us:List Value) (s':Shared):Prop:=∃ vs H',Inv X pins σ H' s'∧Vals vs us∧Q vs H'
noncomputable def SP (X:Cx) (pins:List (Addr × Obj)) (D:Ends) (f:Flow) (s':Shared):Prop:=
  match f with
  | .next=>∃ σ' H',Inv X pins σ' H' s'∧D.nx σ' H'
  | .brk=>∃ σ' H',Inv X pins σ' H' s'∧D.bk σ' H'
  | .cont=>∃ σ' H',Inv X pins σ' H' s'∧D.ct σ' H'
  | .ret u=>∃ v σ' H',Inv X pins σ' H' s'∧RelV v u∧D.rt v H'

noncomputable def PE (X:Cx) (e:Expr) (t:TE):Prop:=
  ∀ (pins:List (Addr × Obj)) (s:Shared) (σ:St) (H:Hp) (Q:VK),Inv X pins σ H s→t σ H Q→wpAny (model X.prog X.w) X.A (eval e X.env) (EP X pins σ Q) X.xe s
noncomputable def PT (X:Cx) (e:Expr) (t:TT):Prop:=
  ∀ (pins:List (Addr × Obj)) (s:Shared) (σ:St) (H:Hp) (Q:Bool→Hp→Prop),Inv X pins σ H s→t σ H Q→wpAny (model X.prog X.w) X.A (isTrue e X.env (eval e X.env)) (TP X pins σ Q) X.xe s
noncomputable def PW (X:Cx) (e:Expr) (t:TT):Prop:=
  ∀ (whole:Sem Value) (pins:List (Addr × Obj)) (s:Shared) (σ:St) (H:Hp) (Q:Bool→Hp→Prop),Inv X pins σ H s→t σ H Q→wpAny (model X.prog X.w) X.A (isTrue e X.env whole) (TP X pins σ Q) X.xe s
theorem PW.pt {X:Cx}{e:Expr}{t:TT} (h:PW X e t):PT X e t:=h _
noncomputable def PA (X:Cx) (es:List Expr) (t:TA):Prop:=
  ∀ (pos:Pos) (pins:List (Addr × Obj)) (s:Shared) (σ:St) (H:Hp) (Q:List V→Hp→Prop),Inv X pins σ H s→t σ H Q→wpAny (model X.prog X.w) X.A (spliced (backTo pos (starEach es X.env))) (AP X pins σ Q) X.xe s
noncomputable def PS (X:Cx) (st:Stmt) (t:TS):Prop:=
  ∀ (pins:List (Addr × Obj)) (s:Shared) (σ:St) (H:Hp) (D:Ends),Inv X pins σ H s→t D σ H→wpAny (model X.prog X.w) X.A (exec st X.env) (SP X pins D) X.xe s
noncomputable def PSs (X:Cx) (st:List Stmt) (t:TS):Prop:=
  ∀ (pins:List (Addr × Obj)) (s:Shared) (σ:St) (H:Hp) (D:Ends),Inv X pins σ H s→t D σ H→wpAny (model X.prog X.w) X.A (execs st X.env) (SP X pins D) X.xe s
theorem thn {α:Type}{t:Sem α}{Q Q':α→Shared→Prop}{M:Model}{A:Around}{E:Value→Shared→Prop}{s:Shared} (h:wpAny M A t Q E s) (hQ:∀ a s,Q a s→Q' a s):wpAny M A t Q' E s:=wpAny_mono h hQ fun _ _ x=>x
end L2

namespace L2
open PySem PySem.Spec PyProof.Rows
section
variable {X:Cx}

/-! ### names and constants -/
noncomputable def tVar (i:Nat):TE:=fun σ H Q=>∃ v,σ[i]?=some (some v)∧Q v H
noncomputable def tC (v:V):TE:=fun _ H Q=>Q v H
theorem pe_var {i:Nat}{x:Str}{pos:Pos} (hN:X.N[i]?=some x) (hv:Vis X.env.scope x) (hd:(x == ("__debug__" : Str))=false:=by decide) (hcd:(x == ("__classdict__" : Str))=false:=by decide):PE X (.Name x pos) (tVar i):=by
  intro pins s σ H Q I h
  obtain ⟨v,e,h⟩:=h
  obtain ⟨m,hn,hl⟩:=I.loc
  obtain ⟨u,r,l⟩:=hl i x v hN e hv
  have fin:EP X pins σ Q u s:=⟨v,H,I,r,h⟩
  rcases l with ⟨hk,hm⟩ | ⟨hk,c,hc,hcell⟩
  · exact wpAny_Name (wpAny_loadName_local I.ok.kind hk hn hm fin) hd
  · rcases hk with hk | hk
    · exact wpAny_Name (wpAny_loadName_cell I.ok.kind hk hc hcell fin) hd
    · exact wpAny_Name (wpAny_loadName_free I.ok.kind hk hc hcell fin hcd) hd
theorem pe_int {i j pos}:PE X (.Constant (.int i) j pos) (tC (.int i)):=fun _ _ _ H _ I h=>wpAny_Constant_int ⟨.int i,H,I.tok _,⟨_,rfl⟩,h⟩
theorem pe_bl {b j pos}:PE X (.Constant (.bool b) j pos) (tC (.bl b)):=fun _ _ _ H _ I h=>Constant_bool ⟨.bl b,H,I,rfl,h⟩
theorem pe_non {j pos}:PE X (.Constant .none j pos) (tC .non):=fun _ _ _ H _ I h=>Constant_none ⟨.non,H,I,rfl,h⟩
theorem pe_str {x j pos}:PE X (.Constant (.str x) j pos) (tC (.str x)):=fun _ _ _ H _ I h=>Calls.Constant_str ⟨.str x,H,I.tok _,⟨_,rfl⟩,h⟩

noncomputable def Gl (X:Cx) (x:Str):Prop:=X.env.kindOf x=some .globalImplicit
theorem ld_glob {E:Value→Shared→Prop}{pins:List (Addr × Obj)}{s:Shared}{σ:St}{H:Hp}{x:Str}{u:Value}{pos:Pos}{Q:Value→Shared→Prop} (I:Inv X pins σ H s) (hg:Gl X x) (hm:X.mg x=some u) (h:Q u s)
    (hd:(x == ("__debug__" : Str))=false:=by decide):wpAny (model X.prog X.w) X.A (eval (.Name x pos) X.env) Q E s:=
  Calls.Name_function_global I.ok.kind hg (Calls.loadGlobal_global (by rw [I.ok.glob];exact I.mod.glob.keeps I.bk) hm h) hd
theorem ld_blt {E:Value→Shared→Prop}{pins:List (Addr × Obj)}{s:Shared}{σ:St}{H:Hp}{x:Str}{u:Value}{pos:Pos}{Q:Value→Shared→Prop} (I:Inv X pins σ H s) (hg:Gl X x) (hm:X.mg x=none) (hv:bootBuiltins x=some u) (h:Q u s)
    (hn:x ≠ "__name__":=by decide) (hd:(x == ("__debug__" : Str))=false:=by decide):wpAny (model X.prog X.w) X.A (eval (.Name x pos) X.env) Q E s:=by
  obtain ⟨mb,h1,h2⟩:=I.mod.blt
  exact Calls.Name_function_global I.ok.kind hg (Calls.loadGlobal_builtin (by rw [I.ok.glob];exact I.mod.glob.keeps I.bk) hm (by rw [I.ok.blt];exact h1.keeps I.bk) ((h2 x hn).trans hv) h) hd
theorem pe_glob {x:Str}{v:V}{u:Value}{pos:Pos} (hg:Gl X x) (hm:X.mg x=some u) (r:RelV v u) (hd:(x == ("__debug__" : Str))=false:=by decide):PE X (.Name x pos) (tC v):=
  fun _ _ _ H _ I h=>ld_glob I hg hm ⟨v,H,I,r,h⟩ hd
theorem pe_bltn {x:Str}{v:V}{u:Value}{pos:Pos} (hg:Gl X x) (hm:X.mg x=none) (hv:bootBuiltins x=some u) (r:RelV v u) (hn:x ≠ "__name__":=by decide) (hd:(x == ("__debug__" : Str))=false:=by decide):PE X (.Name x pos) (tC v):=
  fun _ _ _ H _ I h=>ld_blt I hg hm hv ⟨v,H,I,r,h⟩ hn hd

/-! ### arithmetic -/
variable {a b:Expr}{ta tb:TE}{pos:Pos}
/-! ### comparisons -/
noncomputable def tB (t:TE):TT:=fun σ H Q=>t σ H fun x H1=>∃ c,x = .bl c∧Q c H1
theorem pt_val {e:Expr}{t:TE} (h:PE X e t) (he:∀ whole,isTrue e X.env whole=(do let v ← whole;standAt e.pos;holding [v] (truthy v)):=by intro _;rfl):PT X e (tB t):=by
  intro pins s σ H Q I hw
  refine isTrue_plain (thn (h pins s σ H _ I hw) fun v s1 zz=>?_) (he _)
  obtain ⟨x,H1,I1,r1,q1⟩:=zz
  obtain ⟨d,rfl,q⟩:=q1
  cases r1
  exact wpAny_truthy_bool ⟨H1,I1,q⟩

/-! ### and, or, not -/
variable {tA tB':TT}{rest:List Expr}
noncomputable def tAnd (t u:TT):TT:=fun σ H Q=>t σ H fun c H1=>if c=true then u σ H1 Q else Q false H1
noncomputable def tOr (t u:TT):TT:=fun σ H Q=>t σ H fun c H1=>if c=true then Q true H1 else u σ H1 Q
noncomputable def tNot (t:TT):TT:=fun σ H Q=>t σ H fun c H1=>Q (!c) H1
theorem pw_and1 (ha:PT X a tA):PW X (.BoolOp .And [a] pos) tA:=by
  intro wh pins s σ H Q I h
  refine isTrue_and (thn (ha pins s σ H Q I h) fun c s1 e=>?_)
  cases c with
  | true=>exact isTrue_and_nil e
  | false=>exact e
theorem pw_or1 (ha:PT X a tA):PW X (.BoolOp .Or [a] pos) tA:=by
  intro wh pins s σ H Q I h
  refine isTrue_or (thn (ha pins s σ H Q I h) fun c s1 e=>?_)
  cases c with
  | false=>exact isTrue_or_nil e
  | true=>exact e
theorem pw_and (ha:PT X a tA) (hb:PW X (.BoolOp .And (b :: rest) pos) tB'):PW X (.BoolOp .And (a :: b :: rest) pos) (tAnd tA tB'):=by
  intro wh pins s σ H Q I h
  refine isTrue_and (thn (ha pins s σ H _ I h) fun c s1 zz=>?_)
  obtain ⟨H1,I1,q1⟩:=zz
  cases c with
  | true=>exact hb wh pins s1 σ H1 Q I1 q1
  | false=>exact ⟨H1,I1,q1⟩
theorem pw_or (ha:PT X a tA) (hb:PW X (.BoolOp .Or (b :: rest) pos) tB'):PW X (.BoolOp .Or (a :: b :: rest) pos) (tOr tA tB'):=by
  intro wh pins s σ H Q I h
  refine isTrue_or (thn (ha pins s σ H _ I h) fun c s1 zz=>?_)
  obtain ⟨H1,I1,q1⟩:=zz
  cases c with
  | true=>exact ⟨H1,I1,q1⟩
  | false=>exact hb wh pins s1 σ H1 Q I1 q1
theorem pt_not (ha:PT X a tA):PT X (.UnaryOp .Not a pos) (tNot tA):=by
  intro pins s σ H Q I h
  exact isTrue_not (ha pins s σ H (fun c H1=>Q (!c) H1) I h)
noncomputable def tAndV (ta tb:TE):TE:=fun σ H Q=>ta σ H fun x H1=>∃ c,x = .bl c∧if c=true then tb σ H1 Q else Q (.bl false) H1
noncomputable def tOrV (ta tb:TE):TE:=fun σ H Q=>ta σ H fun x H1=>∃ c,x = .bl c∧if c=true then Q (.bl true) H1 else tb σ H1 Q
noncomputable def tNotV (ta:TE):TE:=fun σ H Q=>ta σ H fun x H1=>∃ c,x = .bl c∧Q (.bl (!c)) H1
theorem pe_one {op}{t:TE} (h:PE X a t):PE X (.BoolOp op [a] pos) t:=fun pins s σ H Q I hw=>BoolOp_one (h pins s σ H Q I hw)
theorem pe_and (ha:PE X a ta) (hb:PE X (.BoolOp .And (b :: rest) pos) tb):PE X (.BoolOp .And (a :: b :: rest) pos) (tAndV ta tb):=by
  intro pins s σ H Q I h
  refine BoolOp_and (thn (ha pins s σ H _ I h) fun v s1 zz=>?_)
  obtain ⟨x,H1,I1,r1,q1⟩:=zz
  obtain ⟨c,rfl,q1⟩:=q1
  cases r1
  refine wpAny_truthy_bool ?_
  cases c with
  | true=>exact hb pins s1 σ H1 Q I1 q1
  | false=>exact ⟨.bl false,H1,I1,rfl,q1⟩
theorem pe_or (ha:PE X a ta) (hb:PE X (.BoolOp .Or (b :: rest) pos) tb):PE X (.BoolOp .Or (a :: b :: rest) pos) (tOrV ta tb):=by
  intro pins s σ H Q I h
  refine BoolOp_or (thn (ha pins s σ H _ I h) fun v s1 zz=>?_)
  obtain ⟨x,H1,I1,r1,q1⟩:=zz
  obtain ⟨c,rfl,q1⟩:=q1
  cases r1
  refine wpAny_truthy_bool ?_
  cases c with
  | false=>exact hb pins s1 σ H1 Q I1 q1
  | true=>exact ⟨.bl true,H1,I1,rfl,q1⟩
theorem pe_not (ha:PE X a ta):PE X (.UnaryOp .Not a pos) (tNotV ta):=by
  intro pins s σ H Q I h
  refine UnaryOp_ (thn (ha pins s σ H _ I h) fun v s1 zz=>?_)
  obtain ⟨x,H1,I1,r1,q1⟩:=zz
  obtain ⟨c,rfl,q1⟩:=q1
  cases r1
  exact not_of (wpAny_truthy_bool ⟨.bl (!c),H1,I1,rfl,q1⟩)
noncomputable def tIf (t:TT) (ta tb:TE):TE:=fun σ H Q=>t σ H fun c H1=>if c=true then ta σ H1 Q else tb σ H1 Q
theorem pe_ifExp {c:Expr} (hc:PT X c tA) (ha:PE X a ta) (hb:PE X b tb):PE X (.IfExp c a b pos) (tIf tA ta tb):=by
  intro pins s σ H Q I h
  refine wpAny_IfExp (thn (hc pins s σ H _ I h) fun d s1 zz=>?_)
  obtain ⟨H1,I1,q1⟩:=zz
  cases d with
  | true=>exact ha pins s1 σ H1 Q I1 q1
  | false=>exact hb pins s1 σ H1 Q I1 q1
end
end L2

namespace L2
open PySem PySem.Spec PyProof.Rows

/-! ### a list, a tuple that is read: tracked, frozen, or an object of the module -/
noncomputable def SqL (K:PySem.W.Frag) (H:Hp) (a:Addr) (xs:List V):Prop:=
  Rd H a (.lst xs) ∨
    ∃ (o:Obj) (its:Array Value) (n:Nat),K.lookup a=some o∧o.cls = .type "list"∧o.dict=none∧o.data = .seq its n∧its.size≤sizeLine∧Vals xs its.toList
noncomputable def SqT (K:PySem.W.Frag) (H:Hp) (a:Addr) (xs:List V):Prop:=
  Rd H a (.tup xs) ∨
    ∃ (o:Obj) (its:Array Value) (n:Nat),K.lookup a=some o∧o.cls = .type "tuple"∧o.data = .seq its n∧its.size≤sizeLine∧Vals xs its.toList
noncomputable def absV:Value→Option V
  | .none=>some .non
  | .bool b=>some (.bl b)
  | .int i _=>some (.int i)
  | .str x _=>some (.str x)
  | .bytes b _=>some (.byt b)
  | .float b _=>some (.flt b)
  | .ref a=>some (.ref a)
  | .type n=>some (.ty n)
  | _=>none
theorem RelV.abs {x:V}{u:Value} (r:RelV x u):absV u=some x:=by
  cases x with
  | non=>cases r;rfl
  | bl _=>cases r;rfl
  | int _=>obtain ⟨t,rfl⟩:=r;rfl
  | str _=>obtain ⟨t,rfl⟩:=r;rfl
  | byt _=>obtain ⟨t,rfl⟩:=r;rfl
  | flt _=>obtain ⟨t,rfl⟩:=r;rfl
  | ref _=>cases r;rfl
  | ty _=>cases r;rfl
theorem RelV.inj {x y:V}{u:Value} (r:RelV x u) (q:RelV y u):x=y:=Option.some.inj (r.abs.symm.trans q.abs)
theorem Vals.inj:∀ {xs ys:List V}{us:List Value},Vals xs us→Vals ys us→xs=ys
  | _,_,_,.nil,.nil=>rfl
  | _,_,_,.cons r t,.cons r' t'=>by rw [r.inj r',Vals.inj t t']
section
variable {X:Cx}{pins:List (Addr × Obj)}{σ:St}{H:Hp}{s:Shared}{a:Addr}{xs ys:List V}
theorem SqL.of {K:PySem.W.Frag} (h:H a=some (.lst xs)):SqL K H a xs:=.inl (.inl h)
theorem SqT.of {K:PySem.W.Frag} (h:H a=some (.tup xs)):SqT K H a xs:=.inl (.inl h)
theorem Inv.list (I:Inv X pins σ H s) (h:SqL X.K H a xs):∃ its:List Value,Vals xs its∧PlainL s.heap a its.toArray∧xs.length≤sizeLine:=by
  rcases h with h | ⟨o,its,n,hk,hc,hd,hs,hz,r⟩
  · obtain ⟨z,its,n,r,e⟩:=h.ok I.hok
    exact ⟨its,r,⟨_,n,e,rfl,rfl,rfl⟩,z⟩
  · refine ⟨its.toList,r,⟨o,n,I.kIn a o hk,hc,hd,by simpa using hs⟩,?_⟩
    have e:=r.length
    simp only [Array.length_toList] at e
    omega
theorem Inv.tuple (I:Inv X pins σ H s) (h:SqT X.K H a xs):∃ its:List Value,Vals xs its∧IsTup s.heap a its.toArray∧xs.length≤sizeLine:=by
  rcases h with h | ⟨o,its,n,hk,hc,hs,hz,r⟩
  · obtain ⟨z,its,r,p⟩:=h.ok I.hok
    exact ⟨its,r,p,z⟩
  · refine ⟨its.toList,r,⟨o,I.kIn a o hk,hc,n,by simpa using hs⟩,?_⟩
    have e:=r.length
    simp only [Array.length_toList] at e
    omega
theorem Inv.list_inj (I:Inv X pins σ H s) (h:SqL X.K H a xs) (h':SqL X.K H a ys):xs=ys:=by
  obtain ⟨its,r,⟨o,n,e,_,_,d⟩,_⟩:=I.list h
  obtain ⟨its',r',⟨o',n',e',_,_,d'⟩,_⟩:=I.list h'
  rw [e] at e';cases e'
  rw [d] at d'
  injection d' with d1 _
  have:its=its':=by simpa using congrArg Array.toList d1
  subst this
  exact r.inj r'
theorem Inv.tuple_inj (I:Inv X pins σ H s) (h:SqT X.K H a xs) (h':SqT X.K H a ys):xs=ys:=by
  obtain ⟨its,r,⟨o,e,_,n,d⟩,_⟩:=I.tuple h
  obtain ⟨its',r',⟨o',e',_,n',d'⟩,_⟩:=I.tuple h'
  rw [e] at e';cases e'
  rw [d] at d'
  injection d' with d1 _
  have:its=its':=by simpa using congrArg Array.toList d1
  subst this
  exact r.inj r'
end

/-! ### another wish about exceptions -/
noncomputable abbrev Cx.wish (X:Cx) (E:Value→Shared→Prop):Cx:={ X with xe:=E }
noncomputable abbrev Cx.nox (X:Cx):Cx:=X.wish fun _ _=>False
theorem Cx.Ok.wish {X:Cx} (ok:X.Ok) (E:Value→Shared→Prop):(X.wish E).Ok:=
  ⟨ok.mod,ok.kind,ok.glob,ok.blt,ok.above,ok.inj,ok.has,ok.cab,ok.hd,ok.frames,ok.stk,ok.exf,ok.bs,ok.bsz,ok.noex,ok.exfs,ok.funs,ok.frf⟩
theorem Cx.Ok.unwish {X:Cx}{E:Value→Shared→Prop} (ok:(X.wish E).Ok):X.Ok:=
  ⟨ok.mod,ok.kind,ok.glob,ok.blt,ok.above,ok.inj,ok.has,ok.cab,ok.hd,ok.frames,ok.stk,ok.exf,ok.bs,ok.bsz,ok.noex,ok.exfs,ok.funs,ok.frf⟩
section
variable {X:Cx}{pins:List (Addr × Obj)}{σ:St}{H:Hp}{s:Shared}{E:Value→Shared→Prop}
theorem Inv.wish (I:Inv X pins σ H s) (E:Value→Shared→Prop):Inv (X.wish E) pins σ H s:=⟨I.ok.wish E,I.os,I.bare,I.base,I.loc,I.cell,I.free,I.freeC,I.pin,I.hok,I.len⟩
theorem Inv.unwish (I:Inv (X.wish E) pins σ H s):Inv X pins σ H s:=⟨I.ok.unwish,I.os,I.bare,I.base,I.loc,I.cell,I.free,I.freeC,I.pin,I.hok,I.len⟩
theorem SP.unwish {D:Ends}{f:Flow}{s':Shared} (h:SP (X.wish E) pins D f s'):SP X pins D f s':=by
  cases f with
  | next=>obtain ⟨σ',H',I,q⟩:=h;exact ⟨σ',H',I.unwish,q⟩
  | brk=>obtain ⟨σ',H',I,q⟩:=h;exact ⟨σ',H',I.unwish,q⟩
  | cont=>obtain ⟨σ',H',I,q⟩:=h;exact ⟨σ',H',I.unwish,q⟩
  | ret u=>obtain ⟨v,σ',H',I,r,q⟩:=h;exact ⟨v,σ',H',I.unwish,r,q⟩
theorem PSs.nox {st:List Stmt}{t:TS} (h:PSs X.nox st t):PSs X st t:=fun pins s σ H D I hw =>
  wpAny_mono (h pins s σ H D (I.wish _) hw) (fun _ _ q=>q.unwish) fun _ _ z=>False.elim z
end

/-! ### blocks and small statements -/
section
variable {X:Cx}{st:Stmt}{rest:List Stmt}{t u:TS}{e:Expr}{te:TE}{pos:Pos}
noncomputable def tNext:TS:=fun D σ H=>D.nx σ H
noncomputable def tSeq (t u:TS):TS:=fun D σ H=>t { D with nx:=u D } σ H
theorem pss_nil:PSs X [] tNext:=fun _ _ σ H _ I h=>wpAny_execs_nil ⟨σ,H,I,h⟩
theorem pss_cons (h1:PS X st t) (h2:PSs X rest u):PSs X (st :: rest) (tSeq t u):=by
  intro pins s σ H D I h
  refine wpAny_execs_cons (thn (h1 pins s σ H { D with nx:=u D } I h) fun f s1 q=>?_)
  cases f with
  | next =>
    obtain ⟨σ',H',I',q⟩:=q
    exact h2 pins s1 σ' H' D I' q
  | ret v=>exact q
  | brk=>exact q
  | cont=>exact q
theorem pss_one (h1:PS X st t):PSs X [st] t:=by
  intro pins s σ H D I h
  refine wpAny_execs_cons (thn (h1 pins s σ H D I h) fun f s1 q=>?_)
  cases f with
  | next=>exact wpAny_execs_nil q
  | ret v=>exact q
  | brk=>exact q
  | cont=>exact q
theorem Inv.quiet {pins:List (Addr × Obj)}{σ:St}{H:Hp}{s:Shared} (I:Inv X pins σ H s):interactive X.env=false:=by simp [interactive,I.ok.kind]
noncomputable def tDrop (te:TE):TS:=fun D σ H=>te σ H fun _ H1=>D.nx σ H1
theorem ps_expr (he:PE X e te) (hs:swapsWith e none pos.line X.env=pure false:=by rfl):PS X (.Expr e pos) (tDrop te):=by
  intro pins s σ H D I h
  exact wpAny_Expr_any (thn (he pins s σ H _ I h) fun v s1 ⟨x,H1,I1,r1,q1⟩=>⟨σ,H1,I1,q1⟩) I.quiet hs
noncomputable def tRet (te:TE):TS:=fun D σ H=>te σ H D.rt
theorem ps_ret (he:PE X e te):PS X (.Return (some e) pos) (tRet te):=by
  intro pins s σ H D I h
  exact wpAny_Return_some (thn (he pins s σ H _ I h) fun v s1 ⟨x,H1,I1,r1,q1⟩=>⟨x,σ,H1,I1,r1,q1⟩)
noncomputable def tIfS (c:TT) (t u:TS):TS:=fun D σ H=>c σ H fun b H1=>if b=true then t D σ H1 else u D σ H1
theorem ps_if {c:Expr}{a b:List Stmt}{tc:TT} (hc:PT X c tc) (ha:PSs X a t) (hb:PSs X b u):PS X (.If c a b pos) (tIfS tc t u):=by
  intro pins s σ H D I h
  refine wpAny_If (thn (hc pins s σ H _ I h) fun d s1 zz=>?_)
  obtain ⟨H1,I1,q1⟩:=zz
  cases d with
  | true=>exact ha pins s1 σ H1 D I1 q1
  | false=>exact hb pins s1 σ H1 D I1 q1
noncomputable def tNever:TS:=fun _ _ _=>False
theorem pss_never {sts:List Stmt}:PSs X sts tNever:=fun _ _ _ _ _ _ h=>h.elim
end

/-! ### targets -/
noncomputable abbrev TG:=V→St→Hp→(St→Hp→Prop)→Prop
noncomputable abbrev TGs:=List V→St→Hp→(St→Hp→Prop)→Prop
noncomputable def PG (X:Cx) (target:Expr) (t:TG):Prop:=
  ∀ (pins:List (Addr × Obj)) (s:Shared) (σ:St) (H:Hp) (v:V) (u:Value) (Q:St→Hp→Prop),Inv X pins σ H s→RelV v u→t v σ H Q →
    wpAny (model X.prog X.w) X.A (assign target X.env u) (fun _ s'=>∃ σ' H',Inv X pins σ' H' s'∧Q σ' H') X.xe s
noncomputable def PGs (X:Cx) (ts:List Expr) (t:TGs):Prop:=
  ∀ (pins:List (Addr × Obj)) (s:Shared) (σ:St) (H:Hp) (vs:List V) (us:List Value) (Q:St→Hp→Prop),Inv X pins σ H s→Vals vs us→t vs σ H Q →
    wpAny (model X.prog X.w) X.A (assignInOrder ((assignEach ts X.env).map (·.2)) us) (fun _ s'=>∃ σ' H',Inv X pins σ' H' s'∧Q σ' H') X.xe s
noncomputable abbrev TSet:=V→V→V→Hp→(Hp→Prop)→Prop
noncomputable def PSet (X:Cx) (t:TSet):Prop:=
  ∀ (pins:List (Addr × Obj)) (s:Shared) (σ:St) (H:Hp) (o i v:V) (ov iv u:Value) (Q:Hp→Prop),Inv X pins σ H s→RelV o ov→RelV i iv→RelV v u→t o i v H Q →
    wpAny (model X.prog X.w) X.A (setItem ov iv u) (fun _ s'=>∃ H',Inv X pins σ H' s'∧Q H') X.xe s
section
variable {X:Cx}{pos:Pos}
noncomputable def gName (i:Nat):TG:=fun v σ H Q=>Q (σ.set i (some v)) H
theorem pg_name {i:Nat}{x:Str} (hN:X.N.Nodup) (hi:X.N[i]?=some x) (hx:Loc X.env.scope x) (hf:X.fn x=true ∨ X.env.scope.names.lookup x=some .local:=by first | exact .inl rfl | exact .inr rfl | assumption):PG X (.Name x pos) (gName i):=by
  intro pins s σ H v u Q I r h
  exact wpAny_assign_Name (store_ok I hN hi hx r (fun s' I'=>⟨_,H,I',h⟩) hf)
noncomputable def gNil:TGs:=fun vs σ H Q=>vs = []∧Q σ H
noncomputable def gCons (t:TG) (u:TGs):TGs:=fun vs σ H Q=>∃ v r,vs=v :: r∧t v σ H fun σ' H'=>u r σ' H' Q
theorem pgs_nil:PGs X [] gNil:=by
  intro pins s σ H vs us Q I r h
  obtain ⟨e,h⟩:=h
  subst e
  cases r
  exact assignInOrder_nil ⟨σ,H,I,h⟩
theorem pgs_cons {e:Expr}{es:List Expr}{t:TG}{u:TGs} (h1:PG X e t) (h2:PGs X es u)
    (hs:(assignEach (e :: es) X.env).map (·.2)=assign e X.env :: (assignEach es X.env).map (·.2):=by rfl):PGs X (e :: es) (gCons t u):=by
  intro pins s σ H vs us Q I r h
  obtain ⟨v,vr,e1,h⟩:=h
  subst e1
  cases r with
  | cons r rr =>
    rw [hs]
    refine assignInOrder_cons (thn (h1 pins s σ H _ _ _ I r h) fun _ s1 zz=>?_)
    obtain ⟨σ1,H1,I1,q1⟩:=zz
    exact h2 pins s1 σ1 H1 _ _ Q I1 rr q1
noncomputable def gTup (K:PySem.W.Frag) (n:Nat) (t:TGs):TG:=fun v σ H Q=>∃ a xs,v = .ref a∧SqT K H a xs∧xs.length=n∧t xs σ H Q
theorem pg_tup {es:List Expr}{k:Nat}{t:TGs}{n:Nat} (hc:X.calm=true) (h:PGs X es t)
    (hn:(assignEach es X.env).length=n:=by rfl) (hst:(assignEach es X.env).findIdx? (·.1)=none:=by rfl):PG X (.Tuple es k pos) (gTup X.K n t):=by
  intro pins s σ H v u Q I r hw
  obtain ⟨a,xs,e1,hq,hl,hw⟩:=hw
  subst e1
  cases r
  obtain ⟨its,rv,ht,hz⟩:=I.tuple hq
  refine assign_Tuple_tuple (I.ok.hd hc) ht (by simp [hn,← hl,rv.length]) hst fun h' hx=>?_
  have I1:Inv X pins σ H { s with heap:=h' }:=I.kept (t':=s.toks) fun b o e=>hx b o (Nat.ne_of_lt (Heap.lt_size e)) e
  exact h pins _ σ H xs _ Q I1 (by simpa using rv) hw
noncomputable def gSub (to ti:TE) (t:TSet):TG:=fun v σ H Q=>to σ H fun o H1=>ti σ H1 fun i H2=>t o i v H2 fun H3=>Q σ H3
theorem pg_sub {o i:Expr}{to ti:TE}{t:TSet} (ho:PE X o to) (hi:PE X i ti) (hs:PSet X t)
    (ha:∀ v,assign (.Subscript o i pos) X.env v=(do
      let ov ← holding [v] (eval o X.env)
      let iv ← holding [v,ov] (eval i X.env)
      standAt pos
      holding [v,ov,iv] (setItem ov iv v)
      release [v,ov,iv] []):=by intro _;rfl):PG X (.Subscript o i pos) (gSub to ti t):=by
  intro pins s σ H v u Q I r h
  rw [ha]
  refine wpAny_bind (wpAny_holding (thn (ho pins s σ H _ I h) fun ov s1 zz=>?_))
  obtain ⟨x,H1,I1,r1,q1⟩:=zz
  refine wpAny_bind (wpAny_holding (thn (hi pins s1 σ H1 _ I1 q1) fun iv s2 zz=>?_))
  obtain ⟨y,H2,I2,r2,q2⟩:=zz
  refine wpAny_bind (wpAny_standAt (wpAny_bind (wpAny_holding (thn (hs pins s2 σ H2 x y v ov iv u _ I2 r1 r2 r q2) fun _ s3 zz=>?_))))
  obtain ⟨H3,I3,q3⟩:=zz
  exact wpAny_release ⟨σ,H3,I3,q3⟩
noncomputable def tAsg (te:TE) (g:TG):TS:=fun D σ H=>te σ H fun x H1=>g x σ H1 D.nx
theorem ps_asg {tg e:Expr}{te:TE}{g:TG} (he:PE X e te) (hg:PG X tg g) (hs:swapsWithSole [tg] e pos.line X.env=pure false:=by rfl) (hw:swappedStores [tg] e X.env=pure none:=by rfl)
    (h1:(assignEach [tg] X.env).map (·.2) = [assign tg X.env]:=by rfl):PS X (.Assign [tg] e pos) (tAsg te g):=by
  intro pins s σ H D I h
  refine wpAny_Assign_stores (thn (he pins s σ H _ I h) fun v s1 zz=>?_) hs hw
  obtain ⟨x,H1,I1,r1,q1⟩:=zz
  rw [h1]
  exact thn (hg pins s1 σ H1 x v _ I1 r1 q1) fun _ s2 q=>q
theorem ps_set {i:Nat}{x:Str}{e:Expr}{te:TE}{pos':Pos} (hN:X.N.Nodup) (hi:X.N[i]?=some x) (hx:Loc X.env.scope x) (he:PE X e te) (hs:swapsWith e (some (.Name x pos')) pos.line X.env=pure false:=by rfl) (hf:X.fn x=true ∨ X.env.scope.names.lookup x=some .local:=by first | exact .inl rfl | exact .inr rfl | assumption) :
    PS X (.Assign [.Name x pos'] e pos) (tAsg te (gName i)):=by
  intro pins s σ H D I h
  refine wpAny_Assign_Name (thn (he pins s σ H _ I h) fun v s1 zz=>?_) hs
  obtain ⟨y,H1,I1,r1,q1⟩:=zz
  exact store_ok I1 hN hi hx r1 (fun s2 I2=>⟨_,H1,I2,q1⟩) hf
end

/-! ### while -/
section
variable {X:Cx}{pos:Pos}
noncomputable def tWhile (c:TT) (tb:TS):TS:=fun D σ H=>∃ W:Nat→St→Hp→Prop,(∃ m,W m σ H)∧∀ m σ H,W m σ H →
  c σ H fun b H1=>if b=true then ∃ N:St→Hp→Prop,(∀ σ' H',N σ' H'→∃ m',m' < m∧W m' σ' H')∧tb { D with nx:=N,ct:=N,bk:=D.nx } σ H1 else D.nx σ H1
theorem ps_while {c:Expr}{body:List Stmt}{tc:TT}{tb:TS} (hp:PassesOwn (model X.prog X.w) X.A X.env X.xe) (hc:PT X c tc) (hb:PSs X body tb):PS X (.While c body [] pos) (tWhile tc tb):=by
  intro pins s σ H D I h
  obtain ⟨W,⟨m0,w0⟩,turn⟩:=h
  refine wpAny_While (codeAny_whileLoop (fun n s'=>∃ σ' H',Inv X pins σ' H' s'∧W n σ' H') ?_ m0 ⟨σ,H,I,w0⟩)
  rintro n s1 ⟨σ1,H1,I1,w1⟩
  refine wpAny_passesOwn hp (thn (hc pins s1 σ1 H1 _ I1 (turn n σ1 H1 w1)) fun b s2 zz=>?_)
  obtain ⟨H2,I2,q2⟩:=zz
  cases b with
  | true =>
    obtain ⟨N,hN,q2⟩:=q2
    rw [if_pos rfl]
    refine wpAny_passesOwn hp (thn (hb pins s2 σ1 H2 _ I2 q2) fun f s3 q3=>?_)
    cases f with
    | next =>
      obtain ⟨σ3,H3,I3,n3⟩:=q3
      obtain ⟨m',hm,w3⟩:=hN σ3 H3 n3
      exact ⟨m',hm,σ3,H3,I3,w3⟩
    | cont =>
      obtain ⟨σ3,H3,I3,n3⟩:=q3
      obtain ⟨m',hm,w3⟩:=hN σ3 H3 n3
      exact ⟨m',hm,σ3,H3,I3,w3⟩
    | brk=>exact q3
    | ret v=>exact q3
  | false =>
    rw [if_neg Bool.false_ne_true]
    exact wpAny_execs_nil ⟨σ1,H2,I2,q2⟩
end

/-! ### what a loop or a comprehension walks -/
structure It where
  go:Nat→Hp→Prop
  yld:Nat→Hp→V→Hp→Prop
  stop:Nat→Hp→Prop
noncomputable def FpOk (X:Cx) (pins:List (Addr × Obj)) (H:Hp) (b:Addr):Prop:=
  H b=none∧b ≠ X.env.locals∧b ∉ X.fs∧(b ∈ X.ex ∨ X.s₀.heap.objs.size≤b)∧(∀ x c,X.env.cells.lookup x=some c→c ≠ b)∧∀ p ∈ X.pn ++ pins,p.1 ≠ b
theorem Inv.fpOk {X:Cx}{pins:List (Addr × Obj)}{σ:St}{H H':Hp}{s:Shared}{b:Addr} (I:Inv X pins σ H s) (hb:s.heap.objs.size≤b) (hn:H' b=none):FpOk X pins H' b:=by
  refine ⟨hn,Nat.ne_of_gt (Nat.lt_of_lt_of_le I.lt hb),I.nofs hb,.inr (Nat.le_trans I.sz hb),fun x c e z=>?_,fun p hp z=>?_⟩
  · obtain ⟨v,q⟩:=I.cell x c e
    exact absurd (Nat.lt_of_lt_of_le q.lt (by rw [z];exact hb)) (Nat.lt_irrefl _)
  · exact absurd (Nat.lt_of_lt_of_le (Heap.lt_size (I.pin p hp).1) (by rw [z];exact hb)) (Nat.lt_irrefl _)
structure Turn (P:Program) (w:World) (K:PySem.W.Frag) (tg:Expr) (J:It) (fp:List Addr) (it:Addr) (tn:Nat→Heap→Prop):Prop where
  mem:it ∈ fp
  obj:∀ i h,tn i h→∀ b ∈ fp,∃ o,h.get? b=some o∧∀ v,o.data ≠ .cell v
  keep:∀ i h h',tn i h→(∀ b ∈ fp,∀ o,h.get? b=some o→h'.get? b=some o)→tn i h'
  item:∀ (X:Cx),X.prog=P→X.w=w→X.K=K→X.calm=true→∀ (i:Nat) (pins:List (Addr × Obj)) (s:Shared) (σ:St) (H:Hp) (E:Value→Shared→Prop),Inv X pins σ H s→(∀ b ∈ fp,FpOk X pins H b)→tn i s.heap→J.go i H →
    wpAny (model P w) X.A (pyNext (.ref it)) (fun r s1=>∃ u,r=some u ∧
      wpAny (model P w) X.A (letOwnedTupleGo tg (.ref it) u) (fun _ s2=>∃ x H',Inv X pins σ H' s2∧RelV x u∧J.yld i H x H'∧tn (i + 1) s2.heap∧∀ b ∈ fp,H' b=none) E s1) E s
  done:∀ (X:Cx),X.prog=P→X.w=w→X.K=K→X.calm=true→∀ (i:Nat) (pins:List (Addr × Obj)) (s:Shared) (σ:St) (H:Hp) (E:Value→Shared→Prop),Inv X pins σ H s→(∀ b ∈ fp,FpOk X pins H b)→tn i s.heap→J.stop i H →
    wpAny (model P w) X.A (pyNext (.ref it)) (fun r s1=>r=none∧Inv X pins σ H s1) E s
  self:∀ (A:Around) (i:Nat) (s:Shared) (Q:Value→Shared→Prop) (E:Value→Shared→Prop),tn i s.heap→Q (.ref it) s→wpAny (model P w) A (pyIter (.ref it)) Q E s
noncomputable abbrev TI:=St→Hp→(It→Hp→Prop)→Prop
noncomputable def PIE (X:Cx) (pins:List (Addr × Obj)) (σ:St) (tg:Expr) (R:It→Hp→Prop) (itv:Value) (s2:Shared):Prop:=
  ∃ (it:Addr) (fp:List Addr) (tn:Nat→Heap→Prop) (J:It) (H':Hp),itv = .ref it∧Inv X pins σ H' s2∧Turn X.prog X.w X.K tg J fp it tn∧tn 0 s2.heap∧(∀ b ∈ fp,FpOk X pins H' b)∧R J H'
noncomputable def PI (X:Cx) (tg iter:Expr) (wi:TI):Prop:=
  ∀ (pins:List (Addr × Obj)) (s:Shared) (σ:St) (H:Hp) (R:It→Hp→Prop),Inv X pins σ H s→wi σ H R →
    wpAny (model X.prog X.w) X.A (eval iter X.env) (fun v s1=>wpAny (model X.prog X.w) X.A (pyIter v) (PIE X pins σ tg R) X.xe s1) X.xe s

theorem go_of {M:Model}{A:Around}{E:Value→Shared→Prop}{s:Shared}{tg:Expr}{it:Addr}{u:Value}{o:Obj}{n:String}{vs:Array Value}{Q:Unit→Shared→Prop} (ho:s.heap.get? it=some o) (hc:o.cls = .type n) (hd:o.data = .fields vs)
    (hn:["enumerate", "zip", "dict_itemiterator", "dict_reverseitemiterator", "odict_iterator", "itertools.zip_longest", "itertools.pairwise"].contains n=false) (hQ:Q () s):wpAny M A (letOwnedTupleGo tg (.ref it) u) Q E s:=by
  unfold letOwnedTupleGo
  cases tg <;> first
    | exact wpAny_pure hQ
    | (cases u <;> first
        | exact wpAny_pure hQ
        | (refine wpAny_bind (wpAny_load ho ?_)
           rw [hc,hd]
           show wpAny M A (if (["enumerate", "zip", "dict_itemiterator", "dict_reverseitemiterator", "odict_iterator", "itertools.zip_longest", "itertools.pairwise"].contains n && vs[0]? == some (rawInt _))=true then _ else _) Q E s
           rw [if_neg (by intro h;rw [hn,Bool.false_and] at h;cases h)]
           exact wpAny_pure hQ))

noncomputable def Itl (K:PySem.W.Frag) (a:Addr):It:=
  ⟨fun i H=>∃ xs x,SqL K H a xs∧xs[i]?=some x,fun i H x H'=>H'=H∧∀ xs,SqL K H a xs→xs[i]?=some x,fun i H=>∃ xs,SqL K H a xs∧xs.length≤i⟩
noncomputable def Itt (K:PySem.W.Frag) (a:Addr):It:=
  ⟨fun i H=>∃ xs x,SqT K H a xs∧xs[i]?=some x,fun i H x H'=>H'=H∧∀ xs,SqT K H a xs→xs[i]?=some x,fun i H=>∃ xs,SqT K H a xs∧xs.length≤i⟩
noncomputable def Itr (lo:Int) (n:Nat):It:=⟨fun i _=>i < n,fun i H x H'=>H'=H∧x = .int (lo + i),fun i _=>n≤i⟩
theorem turn_list {P:Program}{w:World}{K:PySem.W.Frag}{tg:Expr} (a it:Addr):Turn P w K tg (Itl K a) [it] it (fun i h=>h.IsListIter it a i) where
  mem:=by simp
  obj:=fun i h st b hb=>by
    have e:b=it:=by simpa using hb
    subst e
    obtain ⟨o,e,c,d⟩:=st
    exact ⟨o,e,fun v z=>by rw [d] at z;cases z⟩
  keep:=fun i h h' st k=>st.at fun o e=>k it (by simp) o e
  item:=by
    intro X hP hw hK hc i pins s σ H E I hf st hg
    subst hP hw hK
    obtain ⟨xs,x,hq,hx⟩:=hg
    obtain ⟨its,rv,p,hz⟩:=I.list hq
    obtain ⟨u,hu,ru⟩:=rv.get hx
    obtain ⟨f0,f1,f2,f3,f4,f5⟩:=hf it (by simp)
    refine wpAny_pyNext_list_item st p.isList (x:=u) (by simpa using hu) fun h' st' sb=>?_
    have I1:Inv X pins σ H { s with heap:=h' }:=I.turned (t':=s.toks) (fun b o hb e=>(sb.2 b hb).trans e) f0 f1 f3 f4 f5
    obtain ⟨o,e,c,d⟩:=id st'
    exact ⟨u,rfl,go_of (s:={ s with heap:=h' }) e c d (by decide) ⟨x,H,I1,ru,⟨rfl,fun ys hy=>by rw [I.list_inj hy hq];exact hx⟩,st',fun b hb=>(hf b hb).1⟩⟩
  done:=by
    intro X hP hw hK hc i pins s σ H E I hf st hg
    subst hP hw hK
    obtain ⟨xs,hq,hx⟩:=hg
    obtain ⟨its,rv,p,hz⟩:=I.list hq
    obtain ⟨f0,f1,f2,f3,f4,f5⟩:=hf it (by simp)
    have hl:=rv.length
    exact wpAny_pyNext_list_end (I.ok.hd hc) st p.isList (by simp;omega) fun h' eb=>⟨rfl,I.turned (t':=s.toks) (fun b o hb e=>eb b o hb e) f0 f1 f3 f4 f5⟩
  self:=fun _ _ _ _ _ st h=>wpAny_pyIter_listiter st h
theorem turn_tuple {P:Program}{w:World}{K:PySem.W.Frag}{tg:Expr} (a it:Addr):Turn P w K tg (Itt K a) [it] it (fun i h=>h.IsTupleIter it a i) where
  mem:=by simp
  obj:=fun i h st b hb=>by
    have e:b=it:=by simpa using hb
    subst e
    obtain ⟨o,e,c,d⟩:=st
    exact ⟨o,e,fun v z=>by rw [d] at z;cases z⟩
  keep:=fun i h h' st k=>st.at fun o e=>k it (by simp) o e
  item:=by
    intro X hP hw hK hc i pins s σ H E I hf st hg
    subst hP hw hK
    obtain ⟨xs,x,hq,hx⟩:=hg
    obtain ⟨its,rv,p,hz⟩:=I.tuple hq
    obtain ⟨u,hu,ru⟩:=rv.get hx
    obtain ⟨f0,f1,f2,f3,f4,f5⟩:=hf it (by simp)
    refine wpAny_pyNext_tuple_item st (show s.heap.IsTuple a its.toArray from p) (x:=u) (by simpa using hu) fun h' st' sb=>?_
    have I1:Inv X pins σ H { s with heap:=h' }:=I.turned (t':=s.toks) (fun b o hb e=>(sb.2 b hb).trans e) f0 f1 f3 f4 f5
    obtain ⟨o,e,c,d⟩:=id st'
    exact ⟨u,rfl,go_of (s:={ s with heap:=h' }) e c d (by decide) ⟨x,H,I1,ru,⟨rfl,fun ys hy=>by rw [I.tuple_inj hy hq];exact hx⟩,st',fun b hb=>(hf b hb).1⟩⟩
  done:=by
    intro X hP hw hK hc i pins s σ H E I hf st hg
    subst hP hw hK
    obtain ⟨xs,hq,hx⟩:=hg
    obtain ⟨its,rv,p,hz⟩:=I.tuple hq
    obtain ⟨f0,f1,f2,f3,f4,f5⟩:=hf it (by simp)
    have hl:=rv.length
    exact wpAny_pyNext_tuple_end (I.ok.hd hc) st (show s.heap.IsTuple a its.toArray from p) (by simp;omega) fun h' eb=>⟨rfl,I.turned (t':=s.toks) (fun b o hb e=>eb b o hb e) f0 f1 f3 f4 f5⟩
  self:=fun _ _ _ _ _ st h=>wpAny_pyIter_tupleiter st h
theorem turn_range {P:Program}{w:World}{K:PySem.W.Frag}{tg:Expr} (it:Addr) (lo:Int) (n:Nat):Turn P w K tg (Itr lo n) [it] it (fun i h=>IsRangeIter h it (lo + (i:Nat) * 1) ((n:Int) - (i:Nat)) 1) where
  mem:=by simp
  obj:=fun i h st b hb=>by
    have e:b=it:=by simpa using hb
    subst e
    exact ⟨_,st,fun v z=>by
      have z':Data.fields _=Data.cell v:=z
      cases z'⟩
  keep:=fun i h h' st k=>k it (by simp) _ st
  item:=by
    intro X hP hw hK hc i pins s σ H E I hf st hg
    subst hP hw hK
    obtain ⟨f0,f1,f2,f3,f4,f5⟩:=hf it (by simp)
    have W:=Walks.range (prog:=X.prog) (w:=X.w) (I.ok.hd hc) it lo 1 n
    refine W.item i s _ _ hg st fun v h' tk hv st' kk=>?_
    obtain ⟨t,rfl⟩:=hv
    have I1:Inv X pins σ H { s with heap:=h',toks:=tk }:=I.turned (fun b o hb e=>kk b o (by simpa using hb) e) f0 f1 f3 f4 f5
    refine ⟨_,rfl,go_of (s:={ s with heap:=h',toks:=tk }) (n := "range_iterator") st' rfl rfl (by decide) ⟨.int (lo + i),H,I1,⟨t,?_⟩,⟨rfl,rfl⟩,st',fun b hb=>(hf b hb).1⟩⟩
    rw [Int.mul_one]
  done:=by
    intro X hP hw hK hc i pins s σ H E I hf st hg
    subst hP hw hK
    obtain ⟨f0,f1,f2,f3,f4,f5⟩:=hf it (by simp)
    exact wpAny_pyNext_range_end (I.ok.hd hc) st (by have:n≤i:=hg;omega) fun h' eb=>⟨rfl,I.turned (t':=s.toks) (fun b o hb e=>eb b o hb e) f0 f1 f3 f4 f5⟩
  self:=fun _ _ _ _ _ st h=>wpAny_pyIter_rangeiter st h
end L2

namespace L2
open PySem PySem.Spec PyProof.Rows
section
variable {X:Cx}{tg:Expr}
noncomputable def iList (K:PySem.W.Frag) (tl:TE):TI:=fun σ H R=>tl σ H fun x H1=>∃ a,x = .ref a∧(∃ xs,SqL K H1 a xs)∧R (Itl K a) H1
noncomputable def iTup (K:PySem.W.Frag) (tl:TE):TI:=fun σ H R=>tl σ H fun x H1=>∃ a,x = .ref a∧(∃ xs,SqT K H1 a xs)∧R (Itt K a) H1
theorem pi_list {l:Expr}{tl:TE} (hl:PE X l tl):PI X tg l (iList X.K tl):=by
  intro pins s σ H R I h
  refine thn (hl pins s σ H _ I h) fun v s1 zz=>?_
  obtain ⟨x,H1,I1,r1,q1⟩:=zz
  obtain ⟨a,e,⟨xs,hq⟩,q⟩:=q1
  subst e
  cases r1
  obtain ⟨its,rv,p,hz⟩:=I1.list hq
  refine wpAny_pyIter_list p.isList ?_
  refine ⟨s1.heap.objs.size,[s1.heap.objs.size],_,_,H1,rfl,I1.kept (t':=s1.toks) fun b o e=>Heap.get?_push_of_some _ e,turn_list a _,⟨_,Heap.get?_push_size _ rfl,rfl,rfl⟩,fun b hb=>?_,q⟩
  have e:b=s1.heap.objs.size:=by simpa using hb
  subst e
  exact I1.fpOk (Nat.le_refl _) (I1.hok.fresh (Nat.le_refl _))
theorem pi_tup {l:Expr}{tl:TE} (hl:PE X l tl):PI X tg l (iTup X.K tl):=by
  intro pins s σ H R I h
  refine thn (hl pins s σ H _ I h) fun v s1 zz=>?_
  obtain ⟨x,H1,I1,r1,q1⟩:=zz
  obtain ⟨a,e,⟨xs,hq⟩,q⟩:=q1
  subst e
  cases r1
  obtain ⟨its,rv,p,hz⟩:=I1.tuple hq
  refine wpAny_pyIter_tuple (show s1.heap.IsTuple a its.toArray from p) ?_
  refine ⟨s1.heap.objs.size,[s1.heap.objs.size],_,_,H1,rfl,I1.kept (t':=s1.toks) fun b o e=>Heap.get?_push_of_some _ e,turn_tuple a _,⟨_,Heap.get?_push_size _ rfl,rfl,rfl⟩,fun b hb=>?_,q⟩
  have e:b=s1.heap.objs.size:=by simpa using hb
  subst e
  exact I1.fpOk (Nat.le_refl _) (I1.hok.fresh (Nat.le_refl _))
theorem range_it {pins:List (Addr × Obj)}{σ:St}{H:Hp}{s:Shared}{R:It→Hp→Prop}{E:Value→Shared→Prop}{lo hi:Int}{t u v:Tok}{tk:Nat} (I:Inv X pins σ H s) (h1:-(2 ^ 62)≤lo) (h2:lo < 2 ^ 62) (h3:-(2 ^ 62)≤hi) (h4:hi < 2 ^ 62)
    (q:R (Itr lo (hi - lo).toNat) H):wpAny (model X.prog X.w) X.A (pyIter (.ref s.heap.objs.size)) (PIE X pins σ tg R) E { s with heap:=s.heap.push { cls:=.type "range",data:=.fields #[.int lo t,.int hi u,.int 1 v] },toks:=tk }:=by
  refine wpAny_pyIter_range (IsRange.new ..) (small_one h1 h2 h3 h4) ?_
  have I1:Inv X pins σ H { s with heap:=s.heap.push { cls:=.type "range",data:=.fields #[.int lo t,.int hi u,.int 1 v] },toks:=tk }:=I.kept fun b o e=>Heap.get?_push_of_some _ e
  refine ⟨(s.heap.push { cls:=.type "range",data:=.fields #[.int lo t,.int hi u,.int 1 v] }).objs.size,[(s.heap.push { cls:=.type "range",data:=.fields #[.int lo t,.int hi u,.int 1 v] }).objs.size],_,_,H,rfl,
    I1.kept (t':=tk) fun b o e=>Heap.get?_push_of_some _ e,turn_range _ lo (hi - lo).toNat,?_,fun b hb=>?_,q⟩
  · have e1:lo + ((0:Nat):Int) * 1=lo:=by simp
    have e2:(((hi - lo).toNat:Nat):Int) - ((0:Nat):Int)=Builtin.Range.rangeSize lo hi 1:=by rw [rangeSize_one];split <;> omega
    show IsRangeIter _ _ (lo + ((0:Nat):Int) * 1) ((((hi - lo).toNat:Nat):Int) - ((0:Nat):Int)) 1
    rw [e1,e2]
    exact Heap.get?_push_size _ rfl
  · have e:b=(s.heap.push { cls:=.type "range",data:=.fields #[.int lo t,.int hi u,.int 1 v] }).objs.size:=by simpa using hb
    subst e
    exact I1.fpOk (Nat.le_refl _) (I1.hok.fresh (Nat.le_refl _))
noncomputable def iRng1 (ta:TA):TI:=fun σ H R=>ta σ H fun vs H1=>∃ j:Int,vs = [.int j]∧-(2 ^ 62)≤j∧j < 2 ^ 62∧R (Itr 0 j.toNat) H1
theorem pi_range1 {a:Expr}{ta:TA}{p pos:Pos} (hg:Gl X "range") (hm:X.mg "range"=none) (ha:PA X [a] ta) (hs:starEach [a] X.env = [(false,eval a X.env)]:=by rfl):PI X tg (.Call (.Name "range" p) [a] [] pos) (iRng1 ta):=by
  intro pins s σ H R I h
  refine Call_ (ld_blt I hg hm boot_range (PyProof.Rows.callWith_type1 (thn (ha pos pins s σ H _ I h) fun us s1 zz=>?_) hs rfl))
  obtain ⟨vs,H1,I1,r1,q1⟩:=zz
  obtain ⟨j,e,q1,q2,q⟩:=q1
  subst e
  cases r1 with
  | cons r rr =>
    cases rr
    obtain ⟨t,rfl⟩:=r
    exact call_range_1 (range_it I1 (by omega) (by omega) q1 q2 (by simpa using q))
/-! ### for -/
noncomputable def tFor (wi:TI) (g:TG) (tb:TS):TS:=fun D σ H=>wi σ H fun J H1=>∃ W:Nat→Nat→St→Hp→Prop,(∃ m,W 0 m σ H1)∧∀ i m σ H,W i m σ H →
  (J.stop i H∧D.nx σ H) ∨ (J.go i H∧∃ N:St→Hp→Prop,(∀ σ' H',N σ' H'→∃ m',m' < m∧W (i + 1) m' σ' H')∧∀ x H',J.yld i H x H'→g x σ H' fun σ2 H2=>tb { D with nx:=N,ct:=N,bk:=D.nx } σ2 H2)
noncomputable def pinsAt (fp:List Addr) (h:Heap):List (Addr × Obj):=fp.filterMap fun b=>(h.get? b).map fun o=>(b,o)
theorem mem_pinsAt {fp:List Addr}{h:Heap}{b:Addr}{o:Obj} (hb:b ∈ fp) (e:h.get? b=some o):(b,o) ∈ pinsAt fp h:=List.mem_filterMap.mpr ⟨b,hb,by rw [e];rfl⟩
theorem of_pinsAt {fp:List Addr}{h:Heap}{p:Addr × Obj} (hp:p ∈ pinsAt fp h):p.1 ∈ fp∧h.get? p.1=some p.2:=by
  obtain ⟨b,hb,e⟩:=List.mem_filterMap.mp hp
  cases q:h.get? b with
  | none=>rw [q] at e;cases e
  | some o =>
    rw [q] at e
    have e':(b,o)=p:=Option.some.inj e
    subst e'
    exact ⟨hb,q⟩
theorem Inv.pinned {pins:List (Addr × Obj)}{σ:St}{H:Hp}{s:Shared}{fp:List Addr} (I:Inv X pins σ H s) (hf:∀ b ∈ fp,FpOk X pins H b) (ho:∀ b ∈ fp,∃ o,s.heap.get? b=some o∧∀ v,o.data ≠ .cell v):Inv X (pins ++ pinsAt fp s.heap) σ H s:=
  I.pins_of fun p hp=>(List.mem_append.mp hp).elim (fun z=>I.pin p (List.mem_append_right _ z)) fun z=>by
    obtain ⟨hb,e⟩:=of_pinsAt z
    obtain ⟨f0,f1,f2,_⟩:=hf p.1 hb
    obtain ⟨o,e',d⟩:=ho p.1 hb
    rw [e] at e';cases e'
    exact ⟨e,f0,f1,f2,d⟩
theorem Inv.unpinned {pins pl:List (Addr × Obj)}{σ:St}{H:Hp}{s:Shared} (I:Inv X (pins ++ pl) σ H s):Inv X pins σ H s:=I.pins_of fun p hp=>I.pin p (List.mem_append_right _ (List.mem_append_left _ hp))
theorem ps_for {iter:Expr}{body:List Stmt}{wi:TI}{g:TG}{tb:TS}{pos:Pos} (hp:PassesOwn (model X.prog X.w) X.A X.env X.xe) (hc:X.calm=true) (hi:PI X tg iter wi) (hg:PG X tg g) (hb:PSs X body tb)
    (hs:∀ x,foldedSetIterable iter X.env x=pure x:=by intro _;rfl):PS X (.For tg iter body [] pos) (tFor wi g tb):=by
  intro pins s σ H D I h
  refine wpAny_For (thn (hi pins s σ H _ I h) fun v s1 h1=>thn h1 fun itv s2 h2=>?_) hs
  obtain ⟨it,fp,tn,J,H2,e,I2,T,st2,f2,W,⟨m0,w0⟩,turn⟩:=h2
  subst e
  -- what stays true of the iterator's objects through the loop
  have stat:∀ {H':Hp},(∀ b ∈ fp,H' b=none)→∀ b ∈ fp,FpOk X pins H' b:=fun hn b hb=>⟨hn b hb,(f2 b hb).2⟩
  refine codeAny_forLoop_any (fun n s'=>∃ i σ' H',Inv X pins σ' H' s'∧tn i s'.heap∧(∀ b ∈ fp,H' b=none)∧W i n σ' H') ?_ m0 ⟨0,σ,H2,I2,st2,fun b hb=>(f2 b hb).1,w0⟩
  rintro n s3 ⟨i,σ3,H3,I3,st3,fr3,w3⟩
  rcases turn i n σ3 H3 w3 with ⟨stop,qn⟩ | ⟨go,N,hN,step⟩
  · refine wpAny_passesOwn hp (thn (T.done X rfl rfl rfl hc i pins s3 σ3 H3 X.xe I3 (stat fr3) st3 stop) fun r s4 ⟨hr,I4⟩=>?_)
    subst hr
    exact wpAny_execs_nil ⟨σ3,H3,I4,qn⟩
  · refine wpAny_passesOwn hp (thn (T.item X rfl rfl rfl hc i pins s3 σ3 H3 X.xe I3 (stat fr3) st3 go) fun r s4 ⟨u,hr,h4⟩=>?_)
    subst hr
    refine wpAny_passesOwn hp (thn h4 fun _ s5 zz=>?_)
    obtain ⟨x,H5,I5,r5,y5,st5,fr5⟩:=zz
    have I5':=I5.pinned (stat fr5) (T.obj _ _ st5)
    refine wpAny_passesOwn hp (thn (hg _ s5 σ3 H5 x u _ I5' r5 (step x H5 y5)) fun _ s6 zz=>?_)
    obtain ⟨σ6,H6,I6,q6⟩:=zz
    refine wpAny_passesOwn hp (thn (hb _ s6 σ6 H6 _ I6 q6) fun f s7 q7=>?_)
    have again:∀ {σ7:St}{H7:Hp},Inv X (pins ++ pinsAt fp s5.heap) σ7 H7 s7→N σ7 H7→∃ m,m < n∧∃ i σ' H',Inv X pins σ' H' s7∧tn i s7.heap∧(∀ b ∈ fp,H' b=none)∧W i m σ' H':=fun {σ7 H7} I7 n7=>by
      obtain ⟨m',hm,w7⟩:=hN σ7 H7 n7
      refine ⟨m',hm,i + 1,σ7,H7,I7.unpinned,T.keep _ _ _ st5 fun b hb o e=>(I7.pin (b,o) (List.mem_append_right _ (List.mem_append_right _ (mem_pinsAt hb e)))).1,fun b hb=>?_,w7⟩
      obtain ⟨o,e,d⟩:=T.obj _ _ st5 b hb
      exact (I7.pin (b,o) (List.mem_append_right _ (List.mem_append_right _ (mem_pinsAt hb e)))).2.1
    cases f with
    | next=>obtain ⟨σ7,H7,I7,n7⟩:=q7;exact again I7 n7
    | cont=>obtain ⟨σ7,H7,I7,n7⟩:=q7;exact again I7 n7
    | brk=>obtain ⟨σ7,H7,I7,q7⟩:=q7;exact ⟨σ7,H7,I7.unpinned,q7⟩
    | ret v=>obtain ⟨x7,σ7,H7,I7,r7,q7⟩:=q7;exact ⟨x7,σ7,H7,I7.unpinned,r7,q7⟩
end

/-! ### the forms one uses -/
theorem for_list {K:PySem.W.Frag}{a:Addr}{xs:List V}{g:TG}{tb:TS}{D:Ends}{σ:St}{H:Hp} (Pv:Nat→St→Hp→Prop) (h0:Pv 0 σ H) (hl:∀ i σ H,i≤xs.length→Pv i σ H→SqL K H a xs)
    (hs:∀ i x σ H,xs[i]?=some x→Pv i σ H→g x σ H fun σ2 H2=>tb { D with nx:=Pv (i + 1),ct:=Pv (i + 1),bk:=D.nx } σ2 H2) (hd:∀ σ H,Pv xs.length σ H→D.nx σ H) :
    ∃ W:Nat→Nat→St→Hp→Prop,(∃ m,W 0 m σ H)∧∀ i m σ H,W i m σ H →
      ((Itl K a).stop i H∧D.nx σ H) ∨ ((Itl K a).go i H∧∃ N:St→Hp→Prop,(∀ σ' H',N σ' H'→∃ m',m' < m∧W (i + 1) m' σ' H')∧∀ x H',(Itl K a).yld i H x H'→g x σ H' fun σ2 H2=>tb { D with nx:=N,ct:=N,bk:=D.nx } σ2 H2):=by
  refine ⟨fun i m σ H=>m=xs.length - i∧i≤xs.length∧Pv i σ H,⟨xs.length,by simp,Nat.zero_le _,h0⟩,?_⟩
  rintro i m σ H ⟨rfl,hi,p⟩
  have q:=hl i σ H hi p
  by_cases hlt:i < xs.length
  · refine .inr ⟨⟨xs,xs[i],q,by simp [hlt]⟩,Pv (i + 1),fun σ' H' p'=>⟨xs.length - (i + 1),by omega,rfl,hlt,p'⟩,fun x H' y=>?_⟩
    obtain ⟨e,y⟩:=y
    subst e
    exact hs i x σ _ (y xs q) p
  · have e:i=xs.length:=by omega
    subst e
    exact .inl ⟨⟨xs,q,Nat.le_refl _⟩,hd σ H p⟩
theorem for_range {lo:Int}{n:Nat}{g:TG}{tb:TS}{D:Ends}{σ:St}{H:Hp} (Pv:Nat→St→Hp→Prop) (h0:Pv 0 σ H)
    (hs:∀ i σ H,i < n→Pv i σ H→g (.int (lo + i)) σ H fun σ2 H2=>tb { D with nx:=Pv (i + 1),ct:=Pv (i + 1),bk:=D.nx } σ2 H2) (hd:∀ σ H,Pv n σ H→D.nx σ H) :
    ∃ W:Nat→Nat→St→Hp→Prop,(∃ m,W 0 m σ H)∧∀ i m σ H,W i m σ H →
      ((Itr lo n).stop i H∧D.nx σ H) ∨ ((Itr lo n).go i H∧∃ N:St→Hp→Prop,(∀ σ' H',N σ' H'→∃ m',m' < m∧W (i + 1) m' σ' H')∧∀ x H',(Itr lo n).yld i H x H'→g x σ H' fun σ2 H2=>tb { D with nx:=N,ct:=N,bk:=D.nx } σ2 H2):=by
  refine ⟨fun i m σ H=>m=n - i∧i≤n∧Pv i σ H,⟨n,by simp,Nat.zero_le _,h0⟩,?_⟩
  rintro i m σ H ⟨rfl,hi,p⟩
  by_cases hlt:i < n
  · refine .inr ⟨hlt,Pv (i + 1),fun σ' H' p'=>⟨n - (i + 1),by omega,rfl,hlt,p'⟩,fun x H' y=>?_⟩
    obtain ⟨e,y⟩:=y
    subst e y
    exact hs i σ _ hlt p
  · have e:i=n:=by omega
    subst e
    exact .inl ⟨Nat.le_refl _,hd σ H p⟩
theorem while_by {c:TT}{tb:TS}{D:Ends}{σ:St}{H:Hp} (Pv:St→Hp→Prop) (μ:St→Hp→Nat) (h0:Pv σ H)
    (hs:∀ σ H,Pv σ H→c σ H fun b H1=>if b=true then tb { D with nx:=fun σ' H'=>Pv σ' H'∧μ σ' H' < μ σ H,ct:=fun σ' H'=>Pv σ' H'∧μ σ' H' < μ σ H,bk:=D.nx } σ H1 else D.nx σ H1)
    (mono:∀ σ H Q Q',(∀ b H1,Q b H1→Q' b H1)→c σ H Q→c σ H Q'):tWhile c tb D σ H:=by
  refine ⟨fun m σ H=>m=μ σ H∧Pv σ H,⟨_,rfl,h0⟩,?_⟩
  rintro m σ H ⟨rfl,p⟩
  refine mono σ H _ _ (fun b H1 q=>?_) (hs σ H p)
  cases b with
  | true=>exact ⟨_,fun σ' H' ⟨p',l⟩=>⟨_,l,rfl,p'⟩,q⟩
  | false=>exact q
end L2

namespace L2
open PySem PySem.Spec PyProof.Rows

noncomputable abbrev R2:=V→V→Hp→VK→Prop
noncomputable def OpR (X:Cx) (f:Value→Value→Sem Value) (r:R2):Prop:=
  ∀ (pins:List (Addr × Obj)) (s:Shared) (σ:St) (H:Hp) (x y:V) (v u:Value) (Q:VK),Inv X pins σ H s→RelV x v→RelV y u→r x y H Q →
    wpAny (model X.prog X.w) X.A (f v u) (EP X pins σ Q) X.xe s
noncomputable def UnR (X:Cx) (f:Value→Sem Value) (r:V→Hp→VK→Prop):Prop:=
  ∀ (pins:List (Addr × Obj)) (s:Shared) (σ:St) (H:Hp) (x:V) (v:Value) (Q:VK),Inv X pins σ H s→RelV x v→r x H Q →
    wpAny (model X.prog X.w) X.A (f v) (EP X pins σ Q) X.xe s
noncomputable def CallR (X:Cx) (f:Value) (r:List V→Hp→VK→Prop):Prop:=
  ∀ (pins:List (Addr × Obj)) (s:Shared) (σ:St) (H:Hp) (xs:List V) (us:List Value) (Q:VK),Inv X pins σ H s→Vals xs us→r xs H Q →
    wpAny (model X.prog X.w) X.A (call f us) (EP X pins σ Q) X.xe s
noncomputable def TruR (X:Cx) (r:V→Hp→(Bool→Hp→Prop)→Prop):Prop:=
  ∀ (pins:List (Addr × Obj)) (s:Shared) (σ:St) (H:Hp) (x:V) (v:Value) (Q:Bool→Hp→Prop),Inv X pins σ H s→RelV x v→r x H Q →
    wpAny (model X.prog X.w) X.A (truthy v) (TP X pins σ Q) X.xe s

noncomputable def tOp (r:R2) (ta tb:TE):TE:=fun σ H Q=>ta σ H fun x H1=>tb σ H1 fun y H2=>r x y H2 Q
noncomputable def tUn (r:V→Hp→VK→Prop) (ta:TE):TE:=fun σ H Q=>ta σ H fun x H1=>r x H1 Q
noncomputable def rI (C:Int→Int→Prop) (g:Int→Int→V):R2:=fun x y H Q=>∃ i j,x = .int i∧y = .int j∧C i j∧Q (g i j) H
noncomputable def rI0 (g:Int→Int→V):R2:=fun x y H Q=>∃ i j,x = .int i∧y = .int j∧Q (g i j) H
noncomputable def rU (g:Int→V):V→Hp→VK→Prop:=fun x H Q=>∃ i,x = .int i∧Q (g i) H

section
variable {X:Cx}{a b c:Expr}{ta tb tc:TE}{pos:Pos}

theorem binT (ha:PE X a ta) (hb:PE X b tb) {pins:List (Addr × Obj)}{s:Shared}{σ:St}{H:Hp}{R:V→V→Hp→Prop} (I:Inv X pins σ H s)
    (h:ta σ H fun x H1=>tb σ H1 fun y H2=>R x y H2) {Q:Value→Shared→Prop}{f:Value→Value→Sem Value}
    (hf:∀ v u s2 x y H2,Inv X pins σ H2 s2→RelV x v→RelV y u→R x y H2→wpAny (model X.prog X.w) X.A (f v u) Q X.xe s2) :
    wpAny (model X.prog X.w) X.A (eval a X.env) (fun v s₁=>wpAny (model X.prog X.w) X.A (eval b X.env) (fun u s₂=>wpAny (model X.prog X.w) X.A (f v u) Q X.xe s₂) X.xe s₁) X.xe s:=by
  refine thn (ha pins s σ H _ I h) fun v s1 zz=>?_
  obtain ⟨x,H1,I1,r1,q1⟩:=zz
  refine thn (hb pins s1 σ H1 _ I1 q1) fun u s2 zz=>?_
  obtain ⟨y,H2,I2,r2,q2⟩:=zz
  exact hf v u s2 x y H2 I2 r1 r2 q2

theorem pe_op {op:Operator}{r:R2} (ho:OpR X (binaryOp op) r) (ha:PE X a ta) (hb:PE X b tb):PE X (.BinOp a op b pos) (tOp r ta tb):=by
  intro pins s σ H Q I h
  exact wpAny_BinOp (binT ha hb I h fun v u s2 x y H2 I2 rx ry q=>ho pins s2 σ H2 x y v u Q I2 rx ry q)
theorem pe_un {op:UnaryOp}{r:V→Hp→VK→Prop} (ho:UnR X (unaryOp op) r) (ha:PE X a ta):PE X (.UnaryOp op a pos) (tUn r ta):=by
  intro pins s σ H Q I h
  exact UnaryOp_ (thn (ha pins s σ H _ I h) fun v s1 ⟨x,H1,I1,r1,q1⟩=>ho pins s1 σ H1 x v Q I1 r1 q1)
/-! ### ints -/
theorem opI {f:Value→Value→Sem Value}{C:Int→Int→Prop}{g:Int→Int→Int}
    (rule:∀ (i j:Int) (t u:Tok) (s:Shared) (Q:Value→Shared→Prop) (E:Value→Shared→Prop),C i j→Q (.int (g i j) s.toks) { s with toks:=s.toks + 1 }→wpAny (model X.prog X.w) X.A (f (.int i t) (.int j u)) Q E s) :
    OpR X f (rI C fun i j=>.int (g i j)):=by
  intro pins s σ H x y v u Q I rx ry h
  obtain ⟨i,j,rfl,rfl,hc,q⟩:=h
  obtain ⟨t,rfl⟩:=rx
  obtain ⟨t',rfl⟩:=ry
  exact rule i j t t' s _ _ hc ⟨.int (g i j),H,I.tok _,⟨_,rfl⟩,q⟩
theorem opI0 {f:Value→Value→Sem Value}{g:Int→Int→Int}
    (rule:∀ (i j:Int) (t u:Tok) (s:Shared) (Q:Value→Shared→Prop) (E:Value→Shared→Prop),Q (.int (g i j) s.toks) { s with toks:=s.toks + 1 }→wpAny (model X.prog X.w) X.A (f (.int i t) (.int j u)) Q E s) :
    OpR X f (rI0 fun i j=>.int (g i j)):=by
  intro pins s σ H x y v u Q I rx ry h
  obtain ⟨i,j,rfl,rfl,q⟩:=h
  obtain ⟨t,rfl⟩:=rx
  obtain ⟨t',rfl⟩:=ry
  exact rule i j t t' s _ _ ⟨.int (g i j),H,I.tok _,⟨_,rfl⟩,q⟩
theorem opB0 {f:Value→Value→Sem Value}{g:Int→Int→Bool}
    (rule:∀ (i j:Int) (t u:Tok) (s:Shared) (Q:Value→Shared→Prop) (E:Value→Shared→Prop),Q (.bool (g i j)) s→wpAny (model X.prog X.w) X.A (f (.int i t) (.int j u)) Q E s) :
    OpR X f (rI0 fun i j=>.bl (g i j)):=by
  intro pins s σ H x y v u Q I rx ry h
  obtain ⟨i,j,rfl,rfl,q⟩:=h
  obtain ⟨t,rfl⟩:=rx
  obtain ⟨t',rfl⟩:=ry
  exact rule i j t t' s _ _ ⟨.bl (g i j),H,I,rfl,q⟩

noncomputable def CDiv (i j:Int):Prop:=0 < j∧j < 1073741824
noncomputable def CMul (i j:Int):Prop:=(-(2 ^ 64) < i∧i < 2 ^ 64) ∨ (-(2 ^ 64) < j∧j < 2 ^ 64)
theorem CMul.ok {i j:Int} (h:CMul i j):IntMulOk i j:=by
  rcases h with ⟨h1,h2⟩ | ⟨h1,h2⟩
  · exact .of_left (intBits_le_64 h1 h2)
  · exact .of_right (intBits_le_64 h1 h2)
theorem op_add:OpR X (binaryOp .Add) (rI0 fun i j=>.int (i + j)):=opI0 fun _ _ _ _ _ _ _ q=>add_int q
theorem op_sub:OpR X (binaryOp .Sub) (rI0 fun i j=>.int (i - j)):=opI0 fun _ _ _ _ _ _ _ q=>sub_int q
theorem op_mul:OpR X (binaryOp .Mult) (rI CMul fun i j=>.int (i * j)):=opI fun _ _ _ _ _ _ _ hc q=>mul_int q hc.ok
theorem op_fdiv:OpR X (binaryOp .FloorDiv) (rI CDiv fun i j=>.int (i / j)):=opI fun i j _ _ _ _ _ hc q=>by
  have h1:(0:Int) < j:=hc.1
  have h2:j < 1073741824:=hc.2
  exact floordiv_int (by omega) (by rw [Int.fdiv_eq_ediv_of_nonneg i (by omega)];exact q) (.inl (PyProof.noPylong_small (by omega)))
theorem op_mod:OpR X (binaryOp .Mod) (rI (fun _ j=>0 < j) fun i j=>.int (i % j)):=opI fun i j _ _ _ _ _ hc q=>by
  have h1:(0:Int) < j:=hc
  exact mod_int' (by omega) (by rw [Int.fmod_eq_emod_of_nonneg i (by omega)];exact q)
theorem unI {f:Value→Sem Value}{g:Int→Int}
    (rule:∀ (i:Int) (t:Tok) (s:Shared) (Q:Value→Shared→Prop) (E:Value→Shared→Prop),Q (.int (g i) s.toks) { s with toks:=s.toks + 1 }→wpAny (model X.prog X.w) X.A (f (.int i t)) Q E s) :
    UnR X f (rU fun i=>.int (g i)):=by
  intro pins s σ H x v Q I rx h
  obtain ⟨i,rfl,q⟩:=h
  obtain ⟨t,rfl⟩:=rx
  exact rule i t s _ _ ⟨.int (g i),H,I.tok _,⟨_,rfl⟩,q⟩
theorem un_neg:UnR X (unaryOp .USub) (rU fun i=>.int (-i)):=unI fun _ _ _ _ _ q=>neg_int q
/-! ### bools among ints: n += (a < b) -/
end

/-! ### comparisons -/
noncomputable def scal:V→V→Bool
  | .non,.non=>true | .non,.int _=>true | .int _,.non=>true | .non,.bl _=>true | .bl _,.non=>true | .non,.str _=>true | .str _,.non=>true
  | .int _,.int _=>true | .bl _,.bl _=>true | .str _,.str _=>true | .byt _,.byt _=>true
  | .int _,.str _=>true | .str _,.int _=>true | .bl _,.str _=>true | .str _,.bl _=>true
  | _,_=>false
noncomputable def rEq:R2:=fun x y H Q=>scal x y=true∧Q (.bl (decide (x=y))) H
noncomputable def rNe:R2:=fun x y H Q=>scal x y=true∧Q (.bl (!decide (x=y))) H

theorem dec_int {i j:Int}:decide (V.int i=V.int j)=(i == j):=by
  rw [Bool.eq_iff_iff]
  simp
theorem dec_bl {i j:Bool}:decide (V.bl i=V.bl j)=(i == j):=by
  rw [Bool.eq_iff_iff]
  simp
theorem dec_str {i j:Str}:decide (V.str i=V.str j)=(i == j):=by
  rw [Bool.eq_iff_iff]
  simp
theorem dec_byt {i j:Array UInt8}:decide (V.byt i=V.byt j)=(i.toList == j.toList):=by
  rw [Bool.eq_iff_iff]
  cases i
  cases j
  simp

section
variable {X:Cx}{a b c:Expr}{ta tb tc:TE}{pos:Pos}
theorem fin_bl {pins:List (Addr × Obj)}{σ:St}{H:Hp}{s:Shared}{Q:VK}{k k':Bool} (I:Inv X pins σ H s) (q:Q (.bl k) H) (e:k=k'):EP X pins σ Q (.bool k') s:=by
  subst e
  exact ⟨.bl k,H,I,rfl,q⟩
theorem op_eq:OpR X (compareOp .Eq) rEq:=by
  intro pins s σ H x y v u Q I rx ry h
  obtain ⟨hs,q⟩:=h
  cases x with
  | non =>
    cases rx
    cases y with
    | non=>cases ry;exact PySem.EqNone.eq_none_none (fin_bl I q (by simp))
    | bl j=>cases ry;exact PySem.EqNone.eq_none_bool (fin_bl I q (by simp))
    | int j=>obtain ⟨t',rfl⟩:=ry;exact PySem.EqNone.eq_none_int (fin_bl I q (by simp))
    | str j=>obtain ⟨t',rfl⟩:=ry;exact PySem.EqNone.eq_none_str (fin_bl I q (by simp))
    | _=>exact absurd (show false=true from hs) Bool.false_ne_true
  | bl i =>
    cases rx
    cases y with
    | non=>cases ry;exact PySem.EqNone.eq_bool_none (fin_bl I q (by simp))
    | bl j=>cases ry;exact eq_bool (fin_bl I q dec_bl)
    | str j=>obtain ⟨t',rfl⟩:=ry;exact PySem.EqMixed.eq_bool_str (fin_bl I q (by simp))
    | _=>exact absurd (show false=true from hs) Bool.false_ne_true
  | int i =>
    obtain ⟨t,rfl⟩:=rx
    cases y with
    | non=>cases ry;exact PySem.EqNone.eq_int_none (fin_bl I q (by simp))
    | int j=>obtain ⟨t',rfl⟩:=ry;exact eq_int (fin_bl I q dec_int)
    | str j=>obtain ⟨t',rfl⟩:=ry;exact PySem.EqMixed.eq_int_str (fin_bl I q (by simp))
    | _=>exact absurd (show false=true from hs) Bool.false_ne_true
  | str i =>
    obtain ⟨t,rfl⟩:=rx
    cases y with
    | non=>cases ry;exact PySem.EqNone.eq_str_none (fin_bl I q (by simp))
    | bl j=>cases ry;exact PySem.EqMixed.eq_str_bool (fin_bl I q (by simp))
    | int j=>obtain ⟨t',rfl⟩:=ry;exact PySem.EqMixed.eq_str_int (fin_bl I q (by simp))
    | str j=>obtain ⟨t',rfl⟩:=ry;exact eq_str (fin_bl I q dec_str)
    | _=>exact absurd (show false=true from hs) Bool.false_ne_true
  | byt i =>
    obtain ⟨t,rfl⟩:=rx
    cases y with
    | byt j=>obtain ⟨t',rfl⟩:=ry;exact PySem.W.eq_bytes (fin_bl I q dec_byt)
    | _=>exact absurd (show false=true from hs) Bool.false_ne_true
  | _=>cases y <;> exact absurd (show false=true from hs) Bool.false_ne_true
theorem op_ne:OpR X (compareOp .NotEq) rNe:=by
  intro pins s σ H x y v u Q I rx ry h
  obtain ⟨hs,q⟩:=h
  cases x with
  | non =>
    cases rx
    cases y with
    | non=>cases ry;exact PySem.EqNone.ne_none_none (fin_bl I q (by simp))
    | bl j=>cases ry;exact PySem.EqNone.ne_none_bool (fin_bl I q (by simp))
    | int j=>obtain ⟨t',rfl⟩:=ry;exact PySem.EqNone.ne_none_int (fin_bl I q (by simp))
    | str j=>obtain ⟨t',rfl⟩:=ry;exact PySem.EqNone.ne_none_str (fin_bl I q (by simp))
    | _=>exact absurd (show false=true from hs) Bool.false_ne_true
  | bl i =>
    cases rx
    cases y with
    | non=>cases ry;exact PySem.EqNone.ne_bool_none (fin_bl I q (by simp))
    | bl j=>cases ry;exact ne_bool (fin_bl I q (congrArg not dec_bl))
    | str j=>obtain ⟨t',rfl⟩:=ry;exact PySem.EqMixed.ne_bool_str (fin_bl I q (by simp))
    | _=>exact absurd (show false=true from hs) Bool.false_ne_true
  | int i =>
    obtain ⟨t,rfl⟩:=rx
    cases y with
    | non=>cases ry;exact PySem.EqNone.ne_int_none (fin_bl I q (by simp))
    | int j=>obtain ⟨t',rfl⟩:=ry;exact ne_int (fin_bl I q (congrArg not dec_int))
    | str j=>obtain ⟨t',rfl⟩:=ry;exact PySem.EqMixed.ne_int_str (fin_bl I q (by simp))
    | _=>exact absurd (show false=true from hs) Bool.false_ne_true
  | str i =>
    obtain ⟨t,rfl⟩:=rx
    cases y with
    | non=>cases ry;exact PySem.EqNone.ne_str_none (fin_bl I q (by simp))
    | bl j=>cases ry;exact PySem.EqMixed.ne_str_bool (fin_bl I q (by simp))
    | int j=>obtain ⟨t',rfl⟩:=ry;exact PySem.EqMixed.ne_str_int (fin_bl I q (by simp))
    | str j=>obtain ⟨t',rfl⟩:=ry;exact ne_str (fin_bl I q (congrArg not dec_str))
    | _=>exact absurd (show false=true from hs) Bool.false_ne_true
  | byt i =>
    obtain ⟨t,rfl⟩:=rx
    cases y with
    | byt j=>obtain ⟨t',rfl⟩:=ry;exact PySem.W.ne_bytes (fin_bl I q (congrArg not dec_byt))
    | _=>exact absurd (show false=true from hs) Bool.false_ne_true
  | _=>cases y <;> exact absurd (show false=true from hs) Bool.false_ne_true

theorem op_lt:OpR X (compareOp .Lt) (rI0 fun i j=>.bl (decide (i < j))):=opB0 fun _ _ _ _ _ _ _ q=>lt_int q
theorem op_le:OpR X (compareOp .LtE) (rI0 fun i j=>.bl (decide (i≤j))):=opB0 fun _ _ _ _ _ _ _ q=>le_int q
theorem op_gt:OpR X (compareOp .Gt) (rI0 fun i j=>.bl (decide (j < i))):=opB0 fun _ _ _ _ _ _ _ q=>gt_int q
theorem op_ge:OpR X (compareOp .GtE) (rI0 fun i j=>.bl (decide (j≤i))):=opB0 fun _ _ _ _ _ _ _ q=>ge_int q
theorem op_in_str:OpR X (compareOp .In) (fun x y H Q=>∃ i j,x = .str i∧y = .str j∧Q (.bl (!(Builtin.Str.occurrences j i 0 j.length 1).isEmpty)) H):=by
  intro pins s σ H x y v u Q I rx ry h
  obtain ⟨i,j,rfl,rfl,q⟩:=h
  obtain ⟨t,rfl⟩:=rx
  obtain ⟨t',rfl⟩:=ry
  exact in_str (fin_bl I q rfl)

theorem op_isN:OpR X (compareOp .Is) (fun x y H Q=>y = .non∧Q (.bl (decide (x = .non))) H):=by
  intro pins s σ H x y v u Q I rx ry h
  obtain ⟨rfl,q⟩:=h
  cases ry
  refine is_none_gen (fin_bl I q ?_)
  cases x <;> first
    | (cases rx;rfl)
    | (obtain ⟨t,rfl⟩:=rx;rfl)
theorem nomark (b:Expr) {op:CmpOp} (h:op ≠ .In:=by decide) (h2:op ≠ .NotIn:=by decide):behindInMarks op b=false:=by
  have e1:(op == CmpOp.In)=false:=by cases op <;> first | rfl | exact absurd rfl h
  have e2:(op == CmpOp.NotIn)=false:=by cases op <;> first | rfl | exact absurd rfl h2
  cases b <;> simp [behindInMarks,e1,e2]
theorem pe_cmpR {op:CmpOp}{r:R2} (ho:OpR X (compareOp op) r) (ha:PE X a ta) (hb:PE X b tb) (hm:behindInMarks op b=false):PE X (.Compare a [op] [b] pos) (tOp r ta tb):=by
  intro pins s σ H Q I h
  exact wpAny_Compare1 (binT ha hb I h fun v u s2 x y H2 I2 rx ry q=>ho pins s2 σ H2 x y v u Q I2 rx ry q) hm
noncomputable def tTest (t:TE):TT:=fun σ H Q=>t σ H fun x H'=>∃ k,x = .bl k∧Q k H'
theorem pt_cmpR {op:CmpOp}{r:R2} (ho:OpR X (compareOp op) r) (ha:PE X a ta) (hb:PE X b tb) (hm:behindInMarks op b=false):PT X (.Compare a [op] [b] pos) (tTest (tOp r ta tb)):=by
  intro pins s σ H Q I h
  refine wpAny_isTrue_Compare1 (thn (ha pins s σ H _ I h) fun v s1 ⟨x,H1,I1,r1,q1⟩=>thn (hb pins s1 σ H1 _ I1 q1) fun u s2 ⟨y,H2,I2,r2,q2⟩ =>
    thn (ho pins s2 σ H2 x y v u _ I2 r1 r2 q2) fun c s3 ⟨z,H3,I3,r3,k,e,q3⟩=>?_) hm
  subst e
  cases r3
  exact wpAny_truthy_bool ⟨H3,I3,q3⟩
noncomputable def tChain (r r':R2) (ta tb tc:TE):TE:=fun σ H Q=>ta σ H fun x H1=>tb σ H1 fun y H2=>r x y H2 fun z H3=>∃ k,z = .bl k ∧
  (if k=true then tc σ H3 fun w' H4=>r' y w' H4 Q else Q (.bl false) H3)
theorem pt_chain {op op':CmpOp}{r r':R2} (ho:OpR X (compareOp op) r) (ho':OpR X (compareOp op') r') (ha:PE X a ta) (hb:PE X b tb) (hc:PE X c tc)
    (hm:lastMarks [op,op'] [b,c]=false:=by with_unfolding_all rfl):PT X (.Compare a [op,op'] [b,c] pos) (tTest (tChain r r' ta tb tc)):=by
  intro pins s σ H Q I h
  refine isTrue_chain (thn (ha pins s σ H _ I h) fun v s1 ⟨x,H1,I1,r1,q1⟩=>test_link (thn (hb pins s1 σ H1 _ I1 q1) fun u s2 ⟨y,H2,I2,r2,q2⟩ =>
    thn (ho pins s2 σ H2 x y v u _ I2 r1 r2 q2) fun d s3 ⟨z,H3,I3,r3,k,e,q3⟩=>?_)) hm
  subst e
  cases r3
  refine wpAny_truthy_bool ?_
  cases k with
  | false =>
    obtain ⟨k',e',q'⟩:=q3
    cases e'
    exact ite_ff ⟨H3,I3,q'⟩
  | true =>
    refine ite_tt (test_last (thn (hc pins s3 σ H3 _ I3 q3) fun w' s4 ⟨z',H4,I4,r4,q4⟩=>thn (ho' pins s4 σ H4 y z' u w' _ I4 r2 r4 q4) fun d' s5 zz=>?_))
    obtain ⟨z2,H5,I5,r5,k2,e2,q5⟩:=zz
    subst e2
    cases r5
    exact wpAny_truthy_bool ⟨H5,I5,q5⟩

/-! ### truth -/
noncomputable def TruV (K:PySem.W.Frag) (x:V) (H:Hp) (k:Bool):Prop:=
  match x with
  | .non=>k=false
  | .bl b=>k=b
  | .int i=>k=(i != 0)
  | .str y=>y.length≤sizeLine∧k=((y.length:Int) != 0)
  | .byt y=>y.size≤sizeLine∧k=((y.size:Int) != 0)
  | .ref p=>(∃ xs,SqL K H p xs∧k = !xs.isEmpty) ∨ (∃ xs,SqT K H p xs∧k = !xs.isEmpty) ∨ ∃ kvs,H p=some (.dK kvs)∧k = !kvs.isEmpty
  | _=>False
theorem isEmpty_kv {κ:Type}{kvs:List (κ × V)}{vs:List (κ × Value)} (r:KV kvs vs):(!vs.isEmpty) = !kvs.isEmpty:=by
  cases r <;> rfl
theorem isEmpty_of {xs:List V}{its:List Value} (r:Vals xs its):(!its.toArray.isEmpty) = !xs.isEmpty:=by
  cases r <;> simp
theorem line63:(sizeLine:Nat) < 2 ^ 63:=by rw [sizeLine_eq];decide
theorem tru_ok:TruR X (fun x H Q=>∃ k,TruV X.K x H k∧Q k H):=by
  intro pins s σ H x v Q I rx h
  obtain ⟨k,e,q⟩:=h
  have hl:=line63
  have hs:sizeLine=16777216:=sizeLine_eq
  cases x with
  | non =>
    cases rx
    have e':k=false:=e
    subst e'
    exact truthy_none ⟨H,I,q⟩
  | bl b =>
    cases rx
    have e':k=b:=e
    subst e'
    exact wpAny_truthy_bool ⟨H,I,q⟩
  | int i =>
    obtain ⟨t,rfl⟩:=rx
    have e':k=(i != 0):=e
    subst e'
    exact PySem.P.truthy_int ⟨H,I,q⟩
  | str y =>
    obtain ⟨t,rfl⟩:=rx
    obtain ⟨hy,e'⟩:y.length≤sizeLine∧k=((y.length:Int) != 0):=e
    subst e'
    exact PySem.P.truthy_str (by omega) ⟨H,I.tok _,q⟩
  | byt y =>
    obtain ⟨t,rfl⟩:=rx
    obtain ⟨hy,e'⟩:y.size≤sizeLine∧k=((y.size:Int) != 0):=e
    subst e'
    exact PySem.W.truthy_bytes (by omega) ⟨H,I.tok _,q⟩
  | ref p =>
    cases rx
    have e':(∃ xs,SqL X.K H p xs∧k = !xs.isEmpty) ∨ (∃ xs,SqT X.K H p xs∧k = !xs.isEmpty) ∨ ∃ kvs,H p=some (.dK kvs)∧k = !kvs.isEmpty:=e
    rcases e' with ⟨xs,hx,e'⟩ | ⟨xs,hx,e'⟩ | ⟨kvs,hx,e'⟩
    · subst e'
      obtain ⟨its,r,pl,hz⟩:=I.list hx
      have hlen:=r.length
      exact wpAny_truthy_list pl.isList (by simp only [List.size_toArray];omega) ⟨H,I.tok _,by rw [isEmpty_of r];exact q⟩
    · subst e'
      obtain ⟨its,r,pl,hz⟩:=I.tuple hx
      have hlen:=r.length
      exact truthy_tuple pl (by simp only [List.size_toArray];omega) ⟨H,I.tok _,by rw [isEmpty_of r];exact q⟩
    · subst e'
      obtain ⟨hz,hS,vs,r,m⟩:kvs.length≤sizeLine∧(p == sysModules)=false∧∃ vs,KV kvs vs∧s.heap.DictOf (mixKind X.prog X.w) p vs:=I.hok p _ hx
      have hlen:kvs.length=vs.length:=Paired.length r
      exact wpAny_truthy_dict hS m (by omega) ⟨H,I.tok _,by rw [isEmpty_kv r];exact q⟩
  | _=>exact (show False from e).elim
theorem pt_truth (ha:PE X a ta) (he:∀ whole,isTrue a X.env whole=(do let v ← whole;standAt a.pos;holding [v] (truthy v))) :
    PT X a (fun σ H Q=>ta σ H fun x H'=>∃ k,TruV X.K x H' k∧Q k H'):=by
  intro pins s σ H Q I h
  exact isTrue_plain (thn (ha pins s σ H _ I h) fun v s1 ⟨x,H1,I1,r1,q1⟩=>tru_ok pins s1 σ H1 x v Q I1 r1 q1) (he _)

/-! ### strs and bytes -/
theorem op_add_str:OpR X (binaryOp .Add) (fun x y H Q=>∃ i j,x = .str i∧y = .str j∧i.length + j.length≤sizeLine∧Q (.str (i ++ j)) H):=by
  intro pins s σ H x y v u Q I rx ry h
  obtain ⟨i,j,rfl,rfl,hz,q⟩:=h
  obtain ⟨t,rfl⟩:=rx
  obtain ⟨t',rfl⟩:=ry
  exact add_str (fun t' tk=>⟨.str (i ++ j),H,I.tok _,⟨_,rfl⟩,q⟩) hz
/-! ### scalar builtins, by CallR -/
theorem vals1 {x:V}{us:List Value} (r:Vals [x] us):∃ u,us = [u]∧RelV x u:=by
  cases r with
  | cons r1 r2=>cases r2;exact ⟨_,rfl,r1⟩
theorem vals2 {x y:V}{us:List Value} (r:Vals [x,y] us):∃ u w',us = [u,w']∧RelV x u∧RelV y w':=by
  cases r with
  | cons r1 r2 =>
    cases r2 with
    | cons r3 r4=>cases r4;exact ⟨_,_,rfl,r1,r3⟩
theorem call_max2 (hc:X.calm=true):CallR X (.builtin "max") (fun xs H Q=>∃ i j,xs = [.int i,.int j]∧Q (.int (if j > i then j else i)) H):=by
  intro pins s σ H xs us Q I r h
  obtain ⟨i,j,rfl,q⟩:=h
  obtain ⟨u,w',rfl,⟨t,rfl⟩,⟨t',rfl⟩⟩:=vals2 r
  refine max_two_ints (I.ok.hd hc) fun h' tk k=>⟨_,H,I.kept k,?_,q⟩
  by_cases hj:j > i
  · rw [if_pos hj,if_pos hj];exact ⟨_,rfl⟩
  · rw [if_neg hj,if_neg hj];exact ⟨_,rfl⟩
theorem call_min2 (hc:X.calm=true):CallR X (.builtin "min") (fun xs H Q=>∃ i j,xs = [.int i,.int j]∧Q (.int (if j < i then j else i)) H):=by
  intro pins s σ H xs us Q I r h
  obtain ⟨i,j,rfl,q⟩:=h
  obtain ⟨u,w',rfl,⟨t,rfl⟩,⟨t',rfl⟩⟩:=vals2 r
  refine min_two_ints (I.ok.hd hc) fun h' tk k=>⟨_,H,I.kept k,?_,q⟩
  by_cases hj:j < i
  · rw [if_pos hj,if_pos hj];exact ⟨_,rfl⟩
  · rw [if_neg hj,if_neg hj];exact ⟨_,rfl⟩
theorem call_int1:CallR X (.type "int") (fun xs H Q=>(∃ i,xs = [.int i]∧Q (.int i) H) ∨ ∃ k,xs = [.bl k]∧Q (.int (if k then 1 else 0)) H):=by
  intro pins s σ H xs us Q I r h
  rcases h with ⟨i,rfl,q⟩ | ⟨k,rfl,q⟩
  · obtain ⟨u,rfl,t,rfl⟩:=vals1 r
    exact call_int_int ⟨.int i,H,I,⟨_,rfl⟩,q⟩
  · obtain ⟨u,rfl,r1⟩:=vals1 r
    cases r1
    exact call_int_bool ⟨.int (if k then 1 else 0),H,I.tok _,⟨_,rfl⟩,q⟩
theorem call_str_int:CallR X (.type "str") (fun xs H Q=>∃ i,xs = [.int i]∧i.natAbs.log2 < 1920∧Q (.str (toString i)) H):=by
  intro pins s σ H xs us Q I r h
  obtain ⟨i,rfl,hz,q⟩:=h
  obtain ⟨u,rfl,t,rfl⟩:=vals1 r
  exact PySem.P.str_of_int hz ⟨.str _,H,I.tok _,⟨_,rfl⟩,q⟩
end
end L2

namespace L2
open PySem PySem.Spec PyProof.Rows

/-! ### an instance, its attributes a map -/
structure ObjM (h:Heap) (x dx C:Addr) (mA:Str→Option Value):Prop where
  obj:h.get? x=some (PySem.W.instObj C dx)
  ns:h.Ns1 dx mA
  ne:dx ≠ x

theorem lookIn_ns {h:Heap}{dx:Addr}{mA:Str→Option Value} (n:h.Ns1 dx mA):∃ od,h.get? dx=some od∧∀ name,PySem.W.lookIn name od=some (mA name):=by
  obtain ⟨o,es,ep,ho,hd,hk,_,hm⟩:=n
  refine ⟨o,ho,fun name=>?_⟩
  have e:=hm name
  unfold nsFind findBy at e
  rw [← Array.find?_toList] at e
  unfold PySem.W.lookIn
  rw [hd]
  dsimp only
  split
  · rename_i y q
    rw [q] at e
    exact congrArg some e
  · rename_i q
    rw [q] at e
    have a:es.toList.any (·.refKey)=false:=by
      rw [List.any_eq_false]
      intro y hy
      obtain ⟨z,t,hkey⟩:=hk y (Array.mem_toList_iff.mp hy)
      simp [DictEntry.refKey,hkey]
    have a':¬ es.toList.any (·.refKey)=true:=by rw [a];exact Bool.false_ne_true
    rw [if_neg a']
    exact congrArg some e

theorem ObjM.look {h:Heap}{x dx C:Addr}{mA:Str→Option Value} (I:ObjM h x dx C mA):∃ od,PySem.W.InstAt h x (PySem.W.instObj C dx) C (some od)∧∀ name,PySem.W.lookIn name od=some (mA name):=
  let ⟨od,ho,hl⟩:=lookIn_ns I.ns
  ⟨od,⟨I.obj,rfl,rfl,ho⟩,hl⟩

section
variable {prog:Program}{w:World}{A:Around}{E:Value→Shared→Prop}{s:Shared}{K:PySem.W.Frag}{x dx C f:Addr}{mA:Str→Option Value}{name:Str}{v:Value}

theorem get_map {expr:Bool}{Q:Value→Shared→Prop} (X:K.In s.heap) (I:ObjM s.heap x dx C mA) (hg:PySem.W.plainGet K C name=true) (hh:PySem.W.hasDictIn K C=true)
    (ha:PySem.W.findIn K (.ref C) name=some none) (hv:mA name=some v) (hv':PySem.W.handedIn v=true) (h:Q v { s with toks:=s.toks + 1 }) :
    wpAny (model prog w) A (getAttr (.ref x) name expr) Q E s:=by
  obtain ⟨od,J,hl⟩:=I.look
  exact PySem.W.get_value X J (PySem.W.plainGet_of hg).1 (PySem.W.findObj_own hh ha rfl (by rw [hl,hv])) hv' h

theorem get_meth {pl:Sem Bool}{Q:Value × List Value→Shared→Prop} (X:K.In s.heap) (I:ObjM s.heap x dx C mA) (hg:PySem.W.plainGet K C name=true)
    (hf:PySem.W.findIn K (.ref C) name=some (some (.ref f))) (ht:PySem.W.isFn K (.ref f)=true) (hv:mA name=none) (h:Q (.ref f,[.ref x]) s) :
    wpAny (model prog w) A (getMethod (.ref x) name pl) Q E s:=by
  obtain ⟨od,J,hl⟩:=I.look
  exact PySem.W.method_fn X J (PySem.W.plainGet_of hg).1 (PySem.W.plainGet_of hg).2 hf (beq_iff_eq.mp ht) (by show (PySem.W.lookIn name od).map (·.isSome)=some false;rw [hl,hv];rfl) h

theorem set_map {ns:List Str}{Q:Unit→Shared→Prop} (X:K.In s.heap) (I:ObjM s.heap x dx C mA)
    (hs:PySem.W.findIn K (.ref C) "__setattr__"=some (some (.builtin "object.__setattr__"))) (hp:PySem.W.plainOver K C=true) (ht:PySem.W.takerIn K C name=some none) (hh:PySem.W.hasDictIn K C=true)
    (hw:PySem.Within mA ns) (hsz:ns.length≤sizeLine)
    (h:∀ h',ObjM h' x dx C (fun y=>if y=name then some v else mA y)→Heap.SameBut dx s.heap h'→Q () { s with heap:=h',toks:=s.toks + 2 }) :
    wpAny (model prog w) A (setAttr (.ref x) name v) Q E s:=by
  obtain ⟨od,J,hl⟩:=I.look
  refine PySem.W.set_plain X J hs (PySem.W.osa_open (s:={ s with toks:=s.toks + 1 }) (r:=none) X J hp ht fun b=>?_)
  obtain ⟨cd,hc,hd'⟩:=PySem.W.any_some hh
  have hx:s.heap.get? x=some ⟨.ref C,some dx,.plain,#[]⟩:=I.obj
  refine wpAny_bind (wpAny_pure (wpAny_bind (wpAny_bind (wpAny_loadPart hx (wpAny_bind (PySem.W.Looks.here (s:={ s with toks:=s.toks + 1 }) (PySem.W.looks_clsIn X hc) ?_))))))
  rw [hd']
  refine wpAny_pure (a:=some dx) (wpAny_bind (wpAny_pure (wpAny_bind ?_)))
  refine wpAny_nsSet1 (s:={ s with toks:=s.toks + 1 }) I.ns fun h' hn2 hs2=>?_
  obtain ⟨oD,esD,epD,hoD,hdD,hcD⟩:=hn2.count (PySem.Within.cons name v hw)
  refine wpAny_bind (wpAny_lookBehind hoD (by rw [hdD];exact pastItsLine_dict (Nat.le_trans hcD (by rw [List.length_cons];omega))) ?_)
  exact wpAny_pure (h _ ⟨(hs2.2 _ (Ne.symm I.ne)).trans I.obj,hn2,I.ne⟩ hs2)

theorem make_map {R:Result→Shared→Prop}{vs:List Value}{kw:List (Str × Value)} (X:K.In s.heap) (hm:PySem.W.makesIn K C=true)
    (hi:PySem.W.findIn K (.ref C) "__init__"=some (some (.ref f))) (hf:PySem.W.typeIn K (.ref f)=some (.type "function"))
    (h:codeAny (model prog w) (A.under (.builtin "type.__call__" ⟨.ref C :: vs,kw⟩)) (.call (.ref f) ⟨.ref (s.heap.objs.size + 1) :: vs,kw⟩) (PySem.W.InitBack (s.heap.objs.size + 1) R)
      { s with heap:=(s.heap.push PySem.W.emptyDict).push (PySem.W.instObj C s.heap.objs.size) }) :
    codeAny (model prog w) A (.call (.ref C) ⟨vs,kw⟩) R s:=by
  obtain ⟨hh,g,d,t,os⟩:=s
  exact PySem.W.make_core (PySem.W.makes_of X hm) (PySem.W.looks_findIn X hi) (fun self=>PySem.W.bind_fn X self hf) (.inl rfl) h
end

/-! ### the attributes as a list of pairs -/
noncomputable def putF (f:Str) (v:V):List (Str × V)→List (Str × V)
  | []=>[(f,v)]
  | (g,x) :: r=>if g=f then (g,v) :: r else (g,x) :: putF f v r
theorem lookup_putF (f g:Str) (v:V):∀ fs:List (Str × V),(putF f v fs).lookup g=if g=f then some v else fs.lookup g
  | []=>by
    show List.lookup g [(f,v)]=_
    by_cases h:g=f
    · have hb:(g == f)=true:=beq_iff_eq.mpr h
      simp only [List.lookup,hb,if_pos h]
    · have hb:(g == f)=false:=beq_eq_false_iff_ne.mpr h
      simp only [List.lookup,hb,if_neg h]
  | (k,x) :: r=>by
    have ih:=lookup_putF f g v r
    rw [show putF f v ((k,x) :: r)=(if k=f then (k,v) :: r else (k,x) :: putF f v r) from rfl]
    by_cases hk:k=f
    · rw [if_pos hk]
      by_cases h:g=k
      · have hb:(g == k)=true:=beq_iff_eq.mpr h
        simp only [List.lookup,hb,if_pos (h.trans hk)]
      · have hb:(g == k)=false:=beq_eq_false_iff_ne.mpr h
        simp only [List.lookup,hb,if_neg (fun e:g=f=>h (e.trans hk.symm))]
    · rw [if_neg hk]
      by_cases h:g=k
      · have hb:(g == k)=true:=beq_iff_eq.mpr h
        simp only [List.lookup,hb,if_neg (fun e:g=f=>hk (h.symm.trans e))]
      · have hb:(g == k)=false:=beq_eq_false_iff_ne.mpr h
        simp only [List.lookup,hb]
        exact ih
theorem keys_putF (f:Str) (v:V):∀ fs:List (Str × V),f ∈ (putF f v fs).map (·.1)∧∀ g,g ∈ fs.map (·.1)→g ∈ (putF f v fs).map (·.1)
  | []=>⟨by simp [putF],fun g h=>by simp at h⟩
  | (k,x) :: r=>by
    obtain ⟨i1,i2⟩:=keys_putF f v r
    rw [show putF f v ((k,x) :: r)=(if k=f then (k,v) :: r else (k,x) :: putF f v r) from rfl]
    by_cases hk:k=f
    · rw [if_pos hk]
      subst hk
      exact ⟨by simp,fun g h=>by simpa using h⟩
    · rw [if_neg hk]
      refine ⟨?_,fun g h=>?_⟩
      · rw [List.map_cons]
        exact List.mem_cons_of_mem _ i1
      · rw [List.map_cons] at h ⊢
        rcases List.mem_cons.mp h with e | e
        · exact List.mem_cons.mpr (.inl e)
        · exact List.mem_cons_of_mem _ (i2 g e)
theorem length_putF (f:Str) (v:V):∀ fs:List (Str × V),(putF f v fs).length≤fs.length + 1
  | []=>by simp [putF]
  | (k,x) :: r=>by
    have ih:=length_putF f v r
    rw [show putF f v ((k,x) :: r)=(if k=f then (k,v) :: r else (k,x) :: putF f v r) from rfl]
    by_cases hk:k=f
    · rw [if_pos hk,List.length_cons,List.length_cons];omega
    · rw [if_neg hk,List.length_cons,List.length_cons];omega

theorem RelO.some_of {v:V}{o:Option Value} (r:RelO (some v) o):∃ u,o=some u∧RelV v u:=by
  cases o with
  | none=>exact (show False from r).elim
  | some u=>exact ⟨u,rfl,r⟩
theorem RelO.none_of {o:Option Value} (r:RelO none o):o=none:=by
  cases o with
  | none=>rfl
  | some u=>exact (show False from r).elim
theorem handed_of {v:V}{u:Value} (r:RelV v u):PySem.W.handedIn u=true:=by
  cases v with
  | non=>cases (show u=Value.none from r);rfl
  | bl b=>cases (show u=Value.bool b from r);rfl
  | int i=>obtain ⟨t,e⟩:=(show ∃ t,u=Value.int i t from r);cases e;rfl
  | str x=>obtain ⟨t,e⟩:=(show ∃ t,u=Value.str x t from r);cases e;rfl
  | byt b=>obtain ⟨t,e⟩:=(show ∃ t,u=Value.bytes b t from r);cases e;rfl
  | flt b=>obtain ⟨t,e⟩:=(show ∃ t,u=Value.float b t from r);cases e;rfl
  | ref a=>cases (show u=Value.ref a from r);rfl
  | ty n=>cases (show u=Value.type n from r);rfl

section
variable {P:Program}{w:World}{H H':Hp}{h h':Heap}{a C dx:Addr}{fs fs':List (Str × V)}
theorem ins_get (hok:HOk P w H h) (e:H a=some (.ins C dx fs)):∃ mA,ObjM h a dx C mA∧(∀ f,RelO (fs.lookup f) (mA f))∧PySem.Within mA (fs.map (·.1))∧fs.length≤1000∧H dx=some (.own a):=by
  obtain ⟨d,z,ne,ob,mA,n,r,q⟩:=(show ObjOk P w H h a (.ins C dx fs) from hok a _ e)
  exact ⟨mA,⟨ob,n,ne⟩,r,q,z,d⟩
end

/-! ### what of the text a class must have -/
structure Cls (K:PySem.W.Frag) (C:Addr):Prop where
  pg:PySem.W.plainGet K C Str.empty=true
  hd:PySem.W.hasDictIn K C=true
  po:PySem.W.plainOver K C=true
  sa:PySem.W.findIn K (.ref C) "__setattr__"=some (some (.builtin "object.__setattr__"))
theorem Cls.get {K:PySem.W.Frag}{C:Addr} (c:Cls K C) (f:Str):PySem.W.plainGet K C f=true:=c.pg
noncomputable def NoAttr (K:PySem.W.Frag) (C:Addr) (f:Str):Prop:=PySem.W.findIn K (.ref C) f=some none
theorem NoAttr.taker {K:PySem.W.Frag}{C:Addr}{f:Str} (n:NoAttr K C f):PySem.W.takerIn K C f=some none:=by
  unfold PySem.W.takerIn
  rw [show PySem.W.findIn K (.ref C) f=some none from n]
  rfl
structure Con (K:PySem.W.Frag) (C:Addr) (f:Str) (v:V) (u:Value):Prop where
  at_:PySem.W.findIn K (.ref C) f=some (some u)
  rel:RelV v u
  get:PySem.W.specialIn K u "__get__"=some none
  cp:PySem.W.copiedNames.contains f=false
structure Meth (K:PySem.W.Frag) (C:Addr) (m:Str) (f:Addr):Prop where
  at_:PySem.W.findIn K (.ref C) m=some (some (.ref f))
  fn:PySem.W.isFn K (.ref f)=true
  kp:PySem.W.keepIn K (.ref f)=true

section
variable {X:Cx}{pins:List (Addr × Obj)}{σ:St}{H:Hp}{s:Shared}{a C dx:Addr}{fs:List (Str × V)}{f:Str}{v:V}{A:Around}{E:Value→Shared→Prop}

theorem getattr_ok {b:Bool}{Q:Value→Shared→Prop} (I:Inv X pins σ H s) (e:H a=some (.ins C dx fs)) (c:Cls X.K C) (n:NoAttr X.K C f) (l:fs.lookup f=some v)
    (h:∀ u s',Inv X pins σ H s'→RelV v u→Q u s'):wpAny (model X.prog X.w) A (getAttr (.ref a) f b) Q E s:=by
  obtain ⟨mA,O,r,_,_,_⟩:=ins_get I.hok e
  obtain ⟨u,hu,ru⟩:=RelO.some_of (v:=v) (o:=mA f) (by rw [← l];exact r f)
  exact get_map I.kIn O (c.get f) c.hd n hu (handed_of ru) (h u _ (I.tok _) ru)

theorem getmeth_ok {m:Str}{g:Addr}{pl:Sem Bool}{Q:Value × List Value→Shared→Prop} (I:Inv X pins σ H s) (e:H a=some (.ins C dx fs)) (c:Cls X.K C) (k:Meth X.K C m g) (l:fs.lookup m=none)
    (h:Q (.ref g,[.ref a]) s):wpAny (model X.prog X.w) A (getMethod (.ref a) m pl) Q E s:=by
  obtain ⟨mA,O,r,_,_,_⟩:=ins_get I.hok e
  have hn:mA m=none:=RelO.none_of (by rw [← l];exact r m)
  exact get_meth I.kIn O (c.get m) k.at_ k.fn hn h

theorem setattr_ok {y:V}{u:Value}{Q:Unit→Shared→Prop} (I:Inv X pins σ H s) (e:H a=some (.ins C dx fs)) (c:Cls X.K C) (n:NoAttr X.K C f) (hl:fs.length < 1000) (ry:RelV y u)
    (h:∀ s',Inv X pins σ (upd H a (.ins C dx (putF f y fs))) s'→Q () s'):wpAny (model X.prog X.w) A (setAttr (.ref a) f u) Q E s:=by
  obtain ⟨mA,O,r,wi,_,ho⟩:=ins_get I.hok e
  have hz:(fs.map (·.1)).length≤sizeLine:=by rw [List.length_map,sizeLine_eq];omega
  refine set_map I.kIn O c.sa c.po n.taker c.hd wi hz fun h' O' sb=>h _ ?_
  have hd:∃ o,h'.get? dx=some o:=let ⟨o,_,_,e',_⟩:=O'.ns;⟨o,e'⟩
  refine I.write (x:=a) (e:=dx) (by rw [e];exact True.intro) (.inr ho) (fun b q hb z=>(sb.2 b hb).trans z) hd ?_
  refine ⟨by rw [upd_ne O.ne];exact ho,?_,O.ne,O'.obj,_,O'.ns,fun g=>?_,fun g hg=>?_⟩
  · have:=length_putF f y fs;omega
  · show RelO ((putF f y fs).lookup g) (if g=f then some u else mA g)
    rw [lookup_putF]
    by_cases q:g=f
    · rw [if_pos q,if_pos q];exact ry
    · rw [if_neg q,if_neg q];exact r g
  · by_cases q:g=f
    · rw [q];exact (keys_putF f y fs).1
    · refine (keys_putF f y fs).2 g (wi g fun z=>hg ?_)
      show (if g=f then some u else mA g)=none
      rw [if_neg q];exact z

theorem Inv.made (I:Inv X pins σ H s):Inv X pins σ (upd (upd H s.heap.objs.size (.own (s.heap.objs.size + 1))) (s.heap.objs.size + 1) (.ins C s.heap.objs.size []))
    { s with heap:=(s.heap.push PySem.W.emptyDict).push (PySem.W.instObj C s.heap.objs.size) }:=by
  have e1:(s.heap.push PySem.W.emptyDict).get? s.heap.objs.size=some PySem.W.emptyDict:=Heap.get?_push_size s.heap rfl
  have e2:((s.heap.push PySem.W.emptyDict).push (PySem.W.instObj C s.heap.objs.size)).get? (s.heap.objs.size + 1)=some (PySem.W.instObj C s.heap.objs.size):=by
    have:=Heap.get?_push_size (s.heap.push PySem.W.emptyDict) (o:=PySem.W.instObj C s.heap.objs.size) rfl
    rwa [Heap.size_push] at this
  have e3:(s.heap.push PySem.W.emptyDict).Ns s.heap.objs.size (fun _=>none):=⟨PySem.W.emptyDict,#[],_,e1,rfl,(fun e he=>absurd he (by simp)),fun _=>rfl⟩
  have I1:=I.laid (a:=s.heap.objs.size) (o:=.own (s.heap.objs.size + 1)) (h':=s.heap.push PySem.W.emptyDict) (t':=s.toks) (fun b u q=>Heap.get?_push_of_some _ q) (Nat.le_refl _) ⟨_,e1⟩
  refine I1.laid (a:=s.heap.objs.size + 1) (o:=.ins C s.heap.objs.size []) (t':=s.toks) (fun b u q=>Heap.get?_push_of_some _ q) (Nat.le_of_eq (Heap.size_push _ _)) ?_
  have ne:s.heap.objs.size ≠ s.heap.objs.size + 1:=Nat.ne_of_lt (Nat.lt_succ_self _)
  refine ⟨by rw [upd_ne ne,upd_same],Nat.zero_le _,ne,e2,fun _=>none,(Heap.Ns1.of_empty e3).at fun o q=>Heap.get?_push_of_some _ q,fun _=>True.intro,fun y hy=>absurd rfl hy⟩

theorem attr_of {prog:Program}{w:World}{env:Env}{e:Expr}{f:Str}{pos:Pos}{s:Shared}{Q:Value→Shared→Prop} (hb:attributeBase e f env (eval e env)=eval e env)
    (h:wpAny (model prog w) A (eval e env) (fun o s₁=>wpAny (model prog w) A (getAttr o f true) Q E s₁) E s):wpAny (model prog w) A (eval (.Attribute e f pos) env) Q E s:=
  Attribute_any_ h (by rw [arm_eval_Attribute,hb])
end

/-! ### readings and rules -/
noncomputable def tFld (K:PySem.W.Frag) (ta:TE) (f:Str):TE:=fun σ H Q=>ta σ H fun x H1=>∃ a C dx fs v,x = .ref a∧H1 a=some (.ins C dx fs)∧Cls K C∧NoAttr K C f∧fs.lookup f=some v∧Q v H1
noncomputable def sFld (K:PySem.W.Frag) (ta tv:TE) (f:Str):TS:=fun D σ H=>tv σ H fun y H1=>ta σ H1 fun x H2=>∃ a C dx fs,x = .ref a∧H2 a=some (.ins C dx fs)∧Cls K C∧NoAttr K C f∧fs.length < 1000 ∧
  D.nx σ (upd H2 a (.ins C dx (putF f y fs)))
noncomputable def InOp (X:Cx) (op:Operator) (rd:V→V→Hp→VK→Prop):Prop:=
  ∀ (pins:List (Addr × Obj)) (s:Shared) (σ:St) (H:Hp) (x y:V) (u v:Value) (Q:VK),Inv X pins σ H s→RelV x u→RelV y v→rd x y H Q→wpAny (model X.prog X.w) X.A (inplaceOp op u v) (EP X pins σ Q) X.xe s
noncomputable def sFldAug (K:PySem.W.Frag) (ta tv:TE) (rd:V→V→Hp→VK→Prop) (f:Str):TS:=fun D σ H=>ta σ H fun x H1=>∃ a C dx fs v,x = .ref a∧H1 a=some (.ins C dx fs)∧Cls K C∧NoAttr K C f∧fs.lookup f=some v ∧
  tv σ H1 fun y H2=>rd v y H2 fun z H3=>∃ dx' fs',H3 a=some (.ins C dx' fs')∧fs'.length < 1000∧D.nx σ (upd H3 a (.ins C dx' (putF f z fs')))

section
variable {X:Cx}{o e value:Expr}{f:Str}{pos pos' tpos:Pos}{ta tv:TE}
theorem pe_fld (he:PE X e ta) (hb:attributeBase e f X.env (eval e X.env)=eval e X.env):PE X (.Attribute e f pos) (tFld X.K ta f):=by
  intro pins s σ H Q I h
  refine attr_of hb (thn (he pins s σ H _ I h) fun u s1 zz=>?_)
  obtain ⟨x,H1,I1,rx,a,C,dx,fs,v,ex,ea,c,n,l,q⟩:=zz
  subst ex
  obtain rfl:u=Value.ref a:=rx
  exact getattr_ok I1 ea c n l fun u' s2 I2 ru=>⟨v,H1,I2,ru,q⟩
theorem ps_fld (ha:PE X o ta) (hv:PE X value tv) (hs:swapsWith value (some (.Attribute o f pos')) pos.line X.env=pure false):PS X (.Assign [.Attribute o f pos'] value pos) (sFld X.K ta tv f):=by
  intro pins s σ H D I h
  refine plainObj_wpAny_Assign_Attribute (thn (hv pins s σ H _ I h) fun u s1 ⟨y,H1,I1,ry,q⟩=>thn (ha pins s1 σ H1 _ I1 q) fun ov s2 zz=>?_) hs
  obtain ⟨x,H2,I2,rx,a,C,dx,fs,ex,ea,c,n,l,q2⟩:=zz
  subst ex
  obtain rfl:ov=Value.ref a:=rx
  exact setattr_ok I2 ea c n l ry fun s3 I3=>⟨σ,_,I3,q2⟩
theorem ps_fldaug {op:Operator}{rd:V→V→Hp→VK→Prop} (ha:PE X o ta) (hv:PE X value tv) (hop:InOp X op rd):PS X (.AugAssign (.Attribute o f tpos) op value pos) (sFldAug X.K ta tv rd f):=by
  intro pins s σ H D I h
  refine wpAny_AugAssign_AttributeAny (thn (ha pins s σ H _ I h) fun ov s1 zz=>?_)
  obtain ⟨x,H1,I1,rx,a,C,dx,fs,v,ex,ea,c,n,l,q⟩:=zz
  subst ex
  obtain rfl:ov=Value.ref a:=rx
  refine getattr_ok I1 ea c n l fun u s2 I2 ru=>thn (hv pins s2 σ H1 _ I2 q) fun w3 s3 ⟨y,H2,I3,ry,q3⟩=>thn (hop pins s3 σ H2 v y u w3 _ I3 ru ry q3) fun w4 s4 zz=>?_
  obtain ⟨z,H3,I4,rz,dx',fs',ea',l',q4⟩:=zz
  exact setattr_ok I4 ea' c n l' rz fun s5 I5=>⟨σ,_,I5,q4⟩
noncomputable def rAdd:V→V→Hp→VK→Prop:=fun x y H Q=>∃ i j,x = .int i∧y = .int j∧Q (.int (i + j)) H
noncomputable def rSub:V→V→Hp→VK→Prop:=fun x y H Q=>∃ i j,x = .int i∧y = .int j∧Q (.int (i - j)) H
theorem in_add:InOp X .Add rAdd:=by
  rintro pins s σ H x y u v Q I rx ry ⟨i,j,rfl,rfl,q⟩
  obtain ⟨t,rfl⟩:=(show ∃ t,u=Value.int i t from rx)
  obtain ⟨t',rfl⟩:=(show ∃ t',v=Value.int j t' from ry)
  exact PyProof.Rows.iadd_int ⟨.int (i + j),H,I.tok _,⟨_,rfl⟩,q⟩
theorem in_sub:InOp X .Sub rSub:=by
  rintro pins s σ H x y u v Q I rx ry ⟨i,j,rfl,rfl,q⟩
  obtain ⟨t,rfl⟩:=(show ∃ t,u=Value.int i t from rx)
  obtain ⟨t',rfl⟩:=(show ∃ t',v=Value.int j t' from ry)
  exact PyProof.Rows.isub_int ⟨.int (i - j),H,I.tok _,⟨_,rfl⟩,q⟩

end

/-! ### isinstance -/
section
variable {X:Cx}{pins:List (Addr × Obj)}{σ:St}{H:Hp}{s:Shared}{A:Around}{E:Value→Shared→Prop}{Q:Value→Shared→Prop}{c:Value}{b:Bool}
inductive TyOf (K:PySem.W.Frag) (H:Hp):V→Value→Prop where
  | non:TyOf K H .non (.type "NoneType")
  | bl (x:Bool):TyOf K H (.bl x) (.type "bool")
  | int (i:Int):TyOf K H (.int i) (.type "int")
  | str (x:Str):TyOf K H (.str x) (.type "str")
  | flt (x:UInt64):TyOf K H (.flt x) (.type "float")
  | lst {a:Addr}{xs:List V} (e:H a=some (.lst xs)):TyOf K H (.ref a) (.type "list")
  | frz {a:Addr}{o:Obj}{xs:List V} (e:H a=some (.frz o (.lst xs))):TyOf K H (.ref a) (.type "list")
  | tup {a:Addr}{xs:List V} (e:H a=some (.tup xs)):TyOf K H (.ref a) (.type "tuple")
  | dK {a:Addr}{kvs:List (Key × V)} (e:H a=some (.dK kvs)):TyOf K H (.ref a) (.type "dict")
  | dT {a:Addr}{kvs:List (List Key × V)} (e:H a=some (.dT kvs)):TyOf K H (.ref a) (.type "dict")
  | ins {a C dx:Addr}{fs:List (Str × V)} (e:H a=some (.ins C dx fs)) (cl:Cls K C) (ha:PySem.W.findIn K (.ref C) "__class__"=some (some (.builtin "object.__class__")))
      (hn:PySem.W.specialIn K (.builtin "object.__class__") "__get__"=some (some (.builtin "getset_descriptor.__get__"))) (htk:PySem.W.takesIn K (.builtin "object.__class__")=some true)
      (hm:PySem.W.mroIn K C (.type "object")=some true):TyOf K H (.ref a) (.ref C)
theorem isinst_ok {x:V}{u t:Value} (I:Inv X pins σ H s) (rx:RelV x u) (ty:TyOf X.K H x t) (e:PySem.W.kitOne X.K t c=some b) (h:∀ tk,Q (.bool b) { s with toks:=tk }) :
    wpAny (model X.prog X.w) A (call (.builtin "isinstance") [u,c]) Q E s:=by
  cases ty with
  | non=>cases (show u=Value.none from rx);exact PySem.W.kia_one PySem.W.kitx_none I.kIn True.intro e (fun z=>nomatch z) h
  | bl y=>cases (show u=Value.bool y from rx);exact PySem.W.kia_one PySem.W.kitx_bool I.kIn True.intro e (fun z=>nomatch z) h
  | int i=>obtain ⟨t,q⟩:=(show ∃ t,u=Value.int i t from rx);cases q;exact PySem.W.kia_one PySem.W.kitx_int I.kIn True.intro e (fun z=>nomatch z) h
  | str y=>obtain ⟨t,q⟩:=(show ∃ t,u=Value.str y t from rx);cases q;exact PySem.W.kia_one PySem.W.kitx_str I.kIn True.intro e (fun z=>nomatch z) h
  | flt y=>obtain ⟨t,q⟩:=(show ∃ t,u=Value.float y t from rx);cases q;exact PySem.W.kia_one PySem.W.kitx_float I.kIn True.intro e (fun z=>nomatch z) h
  | @lst a xs ea =>
    cases (show u=Value.ref a from rx)
    obtain ⟨_,_,n,_,h1⟩:=(show ObjOk X.prog X.w H s.heap a (.lst xs) from I.hok a _ ea)
    exact PySem.W.kia_one PySem.W.kitx_list I.kIn ⟨_,h1,rfl⟩ e (fun z=>nomatch z) h
  | @frz a ob xs ea =>
    cases (show u=Value.ref a from rx)
    obtain ⟨_,_,_,n,_,h1⟩:=(show ObjOk X.prog X.w H s.heap a (.frz ob (.lst xs)) from I.hok a _ ea)
    exact PySem.W.kia_one PySem.W.kitx_list I.kIn ⟨_,h1,rfl⟩ e (fun z=>nomatch z) h
  | @tup a xs ea =>
    cases (show u=Value.ref a from rx)
    obtain ⟨_,_,_,p⟩:=(show ObjOk X.prog X.w H s.heap a (.tup xs) from I.hok a _ ea)
    obtain ⟨o,h1,h2,_⟩:=p
    exact PySem.W.kia_one PySem.W.kitx_tuple I.kIn ⟨o,h1,h2⟩ e (fun z=>nomatch z) h
  | @dK a kvs ea =>
    cases (show u=Value.ref a from rx)
    obtain ⟨_,_,vs,_,p⟩:=(show ObjOk X.prog X.w H s.heap a (.dK kvs) from I.hok a _ ea)
    obtain ⟨o,es,ep,h1,h2,_⟩:=p
    exact PySem.W.kia_one PySem.W.kitx_dict I.kIn ⟨o,h1,h2.1⟩ e (fun z=>nomatch z) h
  | @dT a kvs ea =>
    cases (show u=Value.ref a from rx)
    obtain ⟨_,_,xs,_,o,es,ep,h1,h2,_⟩:=(show ObjOk X.prog X.w H s.heap a (.dT kvs) from I.hok a _ ea)
    exact PySem.W.kia_one PySem.W.kitx_dict I.kIn ⟨o,h1,h2.1⟩ e (fun z=>nomatch z) h
  | @ins a C dx fs ea cl ha hn htk hm =>
    cases (show u=Value.ref a from rx)
    obtain ⟨mA,O,_⟩:=ins_get I.hok ea
    obtain ⟨od,J,_⟩:=O.look
    exact PySem.W.kia_one (PySem.W.kitx_own (cl.get _) cl.hd ha hn htk hm) I.kIn J e (fun z=>nomatch z) h
end
end L2

namespace L2
open PySem PySem.Spec PyProof.Rows

/-! ### room -/
structure Room (k:Nat) (A:Around):Prop where
  hd:A.handled=none
  dp:A.depth + 3 * k + 5 < recursionLimit
  un:A.units + 16 * k + 200 < cLine
theorem Room.mono {j k:Nat}{A:Around} (r:Room k A) (h:j≤k):Room j A:=⟨r.hd,by have:=r.dp;omega,by have:=r.un;omega⟩
theorem Room.deeper {k:Nat}{A:Around} (r:Room (k + 1) A) (env:Env):Room k (A.deeper env):=
  ⟨r.hd,by have:=r.dp;show A.depth + 1 + 3 * k + 5 < _;omega,by have:=r.un;show A.units + 3 + 16 * k + 200 < _;omega⟩
theorem make_depth {A:Around}{C:Addr}{us:List Value}{kw:List (Str × Value)}:(A.under (.builtin "type.__call__" ⟨.ref C :: us,kw⟩)).depth=A.depth + 1:=by
  first | rfl | simp [Around.under,Code.weight,Code.isCreation,Code.isGuard,Code.isCaller,Code.frames,Code.isFrame,guardIds]
theorem make_units {A:Around}{C:Addr}{us:List Value}{kw:List (Str × Value)}:(A.under (.builtin "type.__call__" ⟨.ref C :: us,kw⟩)).units=A.units + 1:=by
  first | rfl | simp [Around.under,Code.cUnits,Code.frames,Code.isFrame]
theorem Room.make {k:Nat}{A:Around} (r:Room (k + 1) A) (C:Addr) (us:List Value) (kw:List (Str × Value)):Room k (A.under (.builtin "type.__call__" ⟨.ref C :: us,kw⟩)):=
  ⟨r.hd,by have:=r.dp;rw [make_depth];omega,by have:=r.un;rw [make_units];omega⟩
theorem Room.depth {k:Nat}{A:Around} (r:Room k A):A.depth < recursionLimit:=by have:=r.dp;omega
theorem Room.units {k:Nat}{A:Around} (r:Room k A):A.units + 64 < cLine:=by have:=r.un;omega
theorem Room.units0 {k:Nat}{A:Around} (r:Room k A):A.units < cLine:=by have:=r.un;omega

/-! ### argument lists and displays -/
noncomputable def tNil:TA:=fun _ H Q=>Q [] H
noncomputable def tCons (ta:TE) (tr:TA):TA:=fun σ H Q=>ta σ H fun x H1=>tr σ H1 fun xs H2=>Q (x :: xs) H2
section
variable {X:Cx}{e:Expr}{es:List Expr}{te:TE}{t:TA}{pos:Pos}
theorem pa_nil:PA X [] tNil:=fun _ _ _ _ H Q I h=>Calls.spliced_nil ⟨[],H,I,.nil,h⟩
theorem pa_cons (ha:PE X e te) (hr:PA X es t) (hs:starEach (e :: es) X.env=(false,eval e X.env) :: starEach es X.env:=by rfl):PA X (e :: es) (tCons te t):=by
  intro pos pins s σ H Q I h
  rw [hs]
  show wpAny _ _ (spliced ((false,eval e X.env) :: backTo pos (starEach es X.env))) _ _ s
  refine Calls.spliced_cons (thn (ha pins s σ H _ I h) fun u s1 zz=>?_)
  obtain ⟨x,H1,I1,r1,q1⟩:=zz
  exact thn (hr pos pins s1 σ H1 _ I1 q1) fun us s2 ⟨xs,H2,I2,r2,q2⟩=>⟨x :: xs,H2,I2,.cons r1 r2,q2⟩

noncomputable def tTup (t:TA):TE:=fun σ H Q=>t σ H fun xs H1=>xs.length≤sizeLine∧∀ p,H1 p=none→Q (.ref p) (upd H1 p (.tup xs))
noncomputable def tLst (t:TA):TE:=fun σ H Q=>t σ H fun xs H1=>xs.length≤sizeLine∧∀ p,H1 p=none→Q (.ref p) (upd H1 p (.lst xs))
theorem pe_tup {x1} (h:PA X es t):PE X (.Tuple es x1 pos) (tTup t):=by
  intro pins s σ H Q I hq
  refine wpAny_Tuple_spliced (thn (h pos pins s σ H _ I hq) fun us s1 ⟨xs,H1,I1,r,z,q⟩=>⟨by rw [← r.length];exact z,?_⟩)
  have hf:H1 s1.heap.objs.size=none:=I1.hok.fresh (Nat.le_refl _)
  refine ⟨.ref s1.heap.objs.size,upd H1 s1.heap.objs.size (.tup xs),I1.laid (t':=s1.toks) (fun b u e=>Heap.get?_push_of_some _ e) (Nat.le_refl _) ?_,rfl,q _ hf⟩
  exact ⟨z,us,r,⟨_,Heap.get?_push_size _ rfl,rfl,_,rfl⟩⟩
theorem pe_lst (h:PA X es t):PE X (.List es pos) (tLst t):=by
  intro pins s σ H Q I hq
  refine wpAny_List_spliced (thn (h pos pins s σ H _ I hq) fun us s1 ⟨xs,H1,I1,r,z,q⟩=>⟨by rw [← r.length];exact z,?_⟩)
  have hf:H1 s1.heap.objs.size=none:=I1.hok.fresh (Nat.le_refl _)
  refine ⟨.ref s1.heap.objs.size,upd H1 s1.heap.objs.size (.lst xs),I1.laid (t':=s1.toks) (fun b u e=>Heap.get?_push_of_some _ e) (Nat.le_refl _) ?_,rfl,q _ hf⟩
  exact ⟨z,us,0,r,Heap.get?_push_size _ rfl⟩
end

/-! ### what a def promises -/
noncomputable abbrev Sp:=List V→Hp→VK→XK→Prop
noncomputable abbrev CXT:=List Env→Hp→Shared→XK→Value→Shared→Prop

structure Env0 (P:Program) (w:World) (K:PySem.W.Frag) (mg:Str→Option Value) (base:Heap) (A:Around) (outer:List Env) (s:Shared) (H:Hp):Prop where
  frames:A.frames=some outer
  mod:Mod K mg base
  bs:∀ b o,base.get? b=some o→s.heap.get? b=some o∧H b=none
  bsz:base.objs.size≤s.heap.objs.size
  funs:s.heap.FunFrames base outer
  frf:∀ b ∈ frs outer,H b=none
  hok:HOk P w H s.heap
  bare:AllBare s.gens
noncomputable def CE (outer:List Env) (P:Program) (w:World) (H:Hp) (s:Shared) (Q:VK) (u:Value) (s':Shared):Prop:=
  ∃ v H',s'.os=s.os∧AllBare s'.gens∧Un (frs outer) [] H H' s.heap s'.heap∧HOk P w H' s'.heap∧RelV v u∧Q v H'
noncomputable def CR (CX:CXT) (outer:List Env) (P:Program) (w:World) (H:Hp) (s:Shared) (Q:VK) (E:XK) (r:Result) (s':Shared):Prop:=
  match r with
  | .ok (.ret u)=>CE outer P w H s Q u s'
  | .ok _=>False
  | .error e=>CX outer H s E e s'
structure FnOk (P:Program) (w:World) (K:PySem.W.Frag) (mg:Str→Option Value) (base:Heap) (CX:CXT) (k:Nat) (f:Addr) (fd:FuncData) (ps:List Str) (sp:Sp):Prop where
  len:∀ vs H Q E,sp vs H Q E→vs.length=ps.length
  run:∀ (A:Around) (outer:List Env) (s:Shared) (H:Hp) (args:Args) (us:List Value) (vs:List V) (Q:VK) (E:XK),Room k A→Env0 P w K mg base A outer s H→BindsTo s fd args (ps.zip us)→Vals vs us→sp vs H Q E →
    codeAny (model P w) A (.call (.ref f) args) (CR CX outer P w H s Q E) s
theorem Env0.make {P:Program}{w:World}{K:PySem.W.Frag}{mg:Str→Option Value}{base:Heap}{A:Around}{outer:List Env}{s:Shared}{H:Hp} (e:Env0 P w K mg base A outer s H) (C:Addr) (us:List Value) (kw:List (Str × Value)) :
    Env0 P w K mg base (A.under (.builtin "type.__call__" ⟨.ref C :: us,kw⟩)) outer s H:=⟨by first | exact e.frames | (simpa [Around.under,Code.envs,Code.isFrame,pushEnvs] using e.frames),e.mod,e.bs,e.bsz,e.funs,e.frf,e.hok,e.bare⟩
section
variable {X:Cx}{pins:List (Addr × Obj)}{σ:St}{H:Hp}{s s':Shared}
theorem Inv.env0 (I:Inv X pins σ H s):Env0 X.prog X.w X.K X.mg X.base X.A X.stack s H:=
  ⟨I.ok.frames,I.ok.mod,I.bs,Nat.le_trans I.ok.bsz I.sz,I.stack,I.stkFree,I.hok,I.bare⟩
theorem Inv.after {Q:VK}{u:Value} (I:Inv X pins σ H s) (h:CE X.stack X.prog X.w H s Q u s'):EP X pins σ Q u s':=by
  obtain ⟨v,H',os,bare,un,hok,r,q⟩:=h
  obtain ⟨hh,g,d,t,os'⟩:=s'
  obtain rfl:os'=s.os:=os
  exact ⟨v,H',I.call (h':=hh) (g':=g) (d':=d) (t':=t) (ch:=[]) un hok bare (fun b z=>absurd z (by simp)),r,q⟩
end

/-! ### calls -/
noncomputable def tCall (sp:Sp) (dvs:List V) (E:XK) (t:TA):TE:=fun σ H Q=>t σ H fun vs H1=>sp (vs ++ dvs) H1 Q E
noncomputable def tMeth (C:Addr) (m:Str) (sp:Sp) (dvs:List V) (E:XK) (ta:TE) (t:TA):TE:=fun σ H Q=>ta σ H fun x H1=>∃ a dx fs,x = .ref a∧H1 a=some (.ins C dx fs)∧fs.lookup m=none ∧
  t σ H1 fun vs H2=>sp (x :: (vs ++ dvs)) H2 Q E
noncomputable def tMake (C:Addr) (sp:Sp) (dvs:List V) (E:XK) (t:TA):TE:=fun σ H Q=>t σ H fun vs H1=>∀ x dx,H1 x=none→H1 dx=none→dx ≠ x →
  sp (.ref x :: (vs ++ dvs)) (upd (upd H1 dx (.own x)) x (.ins C dx [])) (fun v H2=>v = .non∧Q (.ref x) H2) E

noncomputable def Binds (K:PySem.W.Frag) (fd:FuncData) (ps:List Str) (ds:List Value):Prop:=
  ∀ (s:Shared) (us:List Value),K.In s.heap→(us ++ ds).length=ps.length→BindsTo s fd ⟨us,[]⟩ (ps.zip (us ++ ds))
theorem Binds.all {K:PySem.W.Frag}{fd:FuncData}{ps:List Str} (h:∀ us:List Value,us.length=ps.length→bindArgs fd ⟨us,[]⟩=pure (ps.zip us)):Binds K fd ps []:=fun s us _ hl=>by
  rw [List.append_nil] at hl ⊢
  exact .of_eq (h us hl)

noncomputable def Passes (CX:CXT) (X:Cx) (E:XK):Prop:=∀ (pins:List (Addr × Obj)) (σ:St) (H:Hp) (s:Shared) (e:Value) (s':Shared),Inv X pins σ H s→CX X.stack H s E e s'→X.xe e s'

section
variable {X:Cx}{CX:CXT}{k:Nat}{f C:Addr}{fd:FuncData}{ps:List Str}{sp:Sp}{dvs:List V}{ds:List Value}{E:XK}{x m:Str}{p pos apos:Pos}{e o:Expr}{es:List Expr}{ta:TE}{t:TA}

theorem run_fn {pins:List (Addr × Obj)}{σ:St}{H:Hp}{s:Shared}{Q:VK}{us:List Value}{vs:List V} (F:FnOk X.prog X.w X.K X.mg X.base CX k f fd ps sp) (hr:Room k X.A) (hb:Binds X.K fd ps ds) (hd:Vals dvs ds) (hx:Passes CX X E)
    (I:Inv X pins σ H s) (r:Vals vs us) (h:sp (vs ++ dvs) H Q E):wpAny (model X.prog X.w) X.A (call (.ref f) us) (EP X pins σ Q) X.xe s:=by
  have r2:Vals (vs ++ dvs) (us ++ ds):=r.append hd
  have hl:(us ++ ds).length=ps.length:=by rw [← r2.length];exact F.len _ _ _ _ h
  refine wpAny_call (codeAny_mono (F.run X.A X.stack s H ⟨us,[]⟩ (us ++ ds) (vs ++ dvs) Q E hr I.env0 (hb s us I.kIn hl) r2 h) fun r s' hq=>?_)
  cases r with
  | error e=>exact hx pins σ H s e s' I hq
  | ok fl =>
    cases fl with
    | ret u=>exact I.after hq
    | next=>exact False.elim hq
    | brk=>exact False.elim hq
    | cont=>exact False.elim hq

theorem pe_call (F:FnOk X.prog X.w X.K X.mg X.base CX k f fd ps sp) (hr:Room k X.A) (hg:Gl X x) (hm:X.mg x=some (.ref f)) (hk:PySem.W.keepIn X.K (.ref f)=true) (hb:Binds X.K fd ps ds) (hd:Vals dvs ds) (hx:Passes CX X E)
    (ha:PA X (e :: es) t) (hdb:(x == ("__debug__" : Str))=false:=by decide) (he:starEach (e :: es) X.env=(false,eval e X.env) :: starEach es X.env:=by rfl) (hpl:(backTo pos (starEach es X.env)).any (·.1)=false:=by rfl) :
    PE X (.Call (.Name x p) (e :: es) [] pos) (tCall sp dvs E t):=by
  intro pins s σ H Q I h
  refine wpAny_Call_Name_kw (ld_glob I hg hm ?_ hdb)
  refine PySem.W.callWith_K (h₀:=X.base) I.ok.mod.kin hk (thn (ha pos pins s σ H _ I h) fun us s1 ⟨vs,H1,I1,r,q⟩=>⟨I1.kIn,?_⟩) he hpl
  exact run_fn F hr hb hd hx I1 r q
theorem pe_meth {pl:Sem Bool} (he:PE X o ta) (c:Cls X.K C) (hm:Meth X.K C m f) (F:FnOk X.prog X.w X.K X.mg X.base CX k f fd ps sp) (hr:Room k X.A) (hb:Binds X.K fd ps ds) (hd:Vals dvs ds) (hx:Passes CX X E) (ha:PA X (e :: es) t)
    (hst:starEach (e :: es) X.env=(false,eval e X.env) :: starEach es X.env:=by rfl) (hpl:(backTo pos (starEach es X.env)).any (·.1)=false:=by rfl)
    (ht:eval (.Call (.Attribute o m apos) (e :: es) [] pos) X.env=(do
      let ov ← eval o X.env
      standAt apos.atName
      let (f,first) ← holding [ov] (getMethod ov m pl)
      callWith pos f first (backTo pos (starEach (e :: es) X.env)) (backToKw pos (keywordEach [] X.env))):=by rfl) :
    PE X (.Call (.Attribute o m apos) (e :: es) [] pos) (tMeth C m sp dvs E ta t):=by
  intro pins s σ H Q I h
  refine PySem.W.methodCall_KW (pl:=pl) (thn (he pins s σ H _ I h) fun u s1 zz=>?_) ht
  obtain ⟨x,H1,I1,rx,a,dx,fs,ex,ea,l,q⟩:=zz
  subst ex
  obtain rfl:u=Value.ref a:=rx
  refine getmeth_ok I1 ea c hm l ?_
  refine PySem.W.callWith_K (first:=[.ref a]) (h₀:=X.base) I.ok.mod.kin hm.kp (thn (ha pos pins s1 σ H1 _ I1 q) fun us s2 ⟨vs,H2,I2,r,q2⟩=>⟨I2.kIn,?_⟩) hst hpl
  exact run_fn (us:=.ref a :: us) (vs:=.ref a :: vs) F hr hb hd hx I2 (.cons rfl r) q2
theorem pe_meth0 {pl:Sem Bool} (he:PE X o ta) (c:Cls X.K C) (hm:Meth X.K C m f) (F:FnOk X.prog X.w X.K X.mg X.base CX k f fd ps sp) (hr:Room k X.A) (hb:Binds X.K fd ps ds) (hd:Vals dvs ds) (hx:Passes CX X E)
    (ht:eval (.Call (.Attribute o m apos) [] [] pos) X.env=(do
      let ov ← eval o X.env
      standAt apos.atName
      let (f,first) ← holding [ov] (getMethod ov m pl)
      callWith pos f first (backTo pos (starEach [] X.env)) (backToKw pos (keywordEach [] X.env))):=by rfl) :
    PE X (.Call (.Attribute o m apos) [] [] pos) (tMeth C m sp dvs E ta tNil):=by
  intro pins s σ H Q I h
  refine PySem.W.methodCall_KW (pl:=pl) (thn (he pins s σ H _ I h) fun u s1 zz=>?_) ht
  obtain ⟨x,H1,I1,rx,a,dx,fs,ex,ea,l,q⟩:=zz
  subst ex
  obtain rfl:u=Value.ref a:=rx
  refine getmeth_ok I1 ea c hm l ?_
  exact PySem.W.callWith_K0 (first:=[.ref a]) I1.kIn hm.kp (run_fn (us:=[.ref a]) (vs:=[.ref a]) F hr hb hd hx I1 (.cons rfl .nil) q)

structure Mk (K:PySem.W.Frag) (C f:Addr):Prop where
  makes:PySem.W.makesIn K C=true
  init:PySem.W.findIn K (.ref C) "__init__"=some (some (.ref f))
  fn:PySem.W.isFn K (.ref f)=true
  kp:PySem.W.keepIn K (.ref C)=true

theorem run_make {pins:List (Addr × Obj)}{σ:St}{H:Hp}{s:Shared}{Q:VK}{us:List Value}{vs:List V} (M:Mk X.K C f) (F:FnOk X.prog X.w X.K X.mg X.base CX k f fd ps sp) (hr:Room (k + 1) X.A) (hb:Binds X.K fd ps ds) (hd:Vals dvs ds)
    (hx:Passes CX X E) (I:Inv X pins σ H s) (r:Vals vs us)
    (h:∀ x dx,H x=none→H dx=none→dx ≠ x→sp (.ref x :: (vs ++ dvs)) (upd (upd H dx (.own x)) x (.ins C dx [])) (fun v H2=>v = .non∧Q (.ref x) H2) E) :
    wpAny (model X.prog X.w) X.A (call (.ref C) us) (EP X pins σ Q) X.xe s:=by
  have hq:=h (s.heap.objs.size + 1) s.heap.objs.size (I.hok.fresh (Nat.le_succ _)) (I.hok.fresh (Nat.le_refl _)) (Nat.ne_of_lt (Nat.lt_succ_self _))
  have I2:=Inv.made (C:=C) I
  have r2:Vals (V.ref (s.heap.objs.size + 1) :: (vs ++ dvs)) (Value.ref (s.heap.objs.size + 1) :: (us ++ ds)):=.cons rfl (r.append hd)
  have hl:(Value.ref (s.heap.objs.size + 1) :: us ++ ds).length=ps.length:=by
    have e:=r2.length
    rw [F.len _ _ _ _ hq] at e
    exact e.symm
  refine wpAny_call (make_map (f:=f) I.kIn M.makes M.init (beq_iff_eq.mp M.fn) (codeAny_mono (F.run _ X.stack _ _ ⟨Value.ref (s.heap.objs.size + 1) :: us,[]⟩ (Value.ref (s.heap.objs.size + 1) :: (us ++ ds)) _ _ E (hr.make C us [])
    (I2.env0.make C us []) (hb _ (Value.ref (s.heap.objs.size + 1) :: us) I2.kIn hl) r2 hq) fun r s' hq'=>?_))
  cases r with
  | error e=>exact hx pins σ _ _ e s' I2 hq'
  | ok fl =>
    cases fl with
    | ret u =>
      obtain ⟨v,H',I3,rv,ev,q3⟩:=I2.after hq'
      subst ev
      exact ⟨rv,⟨V.ref (s.heap.objs.size + 1),H',I3,rfl,q3⟩⟩
    | next=>exact False.elim hq'
    | brk=>exact False.elim hq'
    | cont=>exact False.elim hq'
theorem pe_make (M:Mk X.K C f) (F:FnOk X.prog X.w X.K X.mg X.base CX k f fd ps sp) (hr:Room (k + 1) X.A) (hg:Gl X x) (hm:X.mg x=some (.ref C)) (hb:Binds X.K fd ps ds) (hd:Vals dvs ds) (hx:Passes CX X E)
    (ha:PA X (e :: es) t) (hdb:(x == ("__debug__" : Str))=false:=by decide) (he:starEach (e :: es) X.env=(false,eval e X.env) :: starEach es X.env:=by rfl) (hpl:(backTo pos (starEach es X.env)).any (·.1)=false:=by rfl) :
    PE X (.Call (.Name x p) (e :: es) [] pos) (tMake C sp dvs E t):=by
  intro pins s σ H Q I h
  refine wpAny_Call_Name_kw (ld_glob I hg hm ?_ hdb)
  refine PySem.W.callWith_K (h₀:=X.base) I.ok.mod.kin M.kp (thn (ha pos pins s σ H _ I h) fun us s1 ⟨vs,H1,I1,r,q⟩=>⟨I1.kIn,?_⟩) he hpl
  exact run_make M F hr hb hd hx I1 r q
end

/-! ### keywords -/
section
variable {X:Cx}{CX:CXT}{k:Nat}{f C:Addr}{fd:FuncData}{ps ks:List Str}{sp:Sp}{E:XK}{x m:Str}{p pos apos kpos:Pos}{e o:Expr}{es:List Expr}{kws:List Keyword}{te ta:TE}{t tk:TA}{nm:Option Str}
structure KBinds (K:PySem.W.Frag) (fd:FuncData) (ps ks:List Str) (g:List Value→List Value→List Value) (gV:List V→List V→List V):Prop where
  to:∀ (s:Shared) (us ws:List Value),K.In s.heap→(g us ws).length=ps.length→BindsTo s fd ⟨us,ks.zip ws⟩ (ps.zip (g us ws))
  rel:∀ {vs:List V}{us:List Value}{zs:List V}{ws:List Value},Vals vs us→Vals zs ws→Vals (gV vs zs) (g us ws)
variable {g:List Value→List Value→List Value}{gV:List V→List V→List V}
end

/-! ### a def's body keeps its promise -/
structure FnScope (N P:List Str) (sc:Scope):Prop where
  kind:sc.kind = .function
  co:sc.isCoroutine=false
  gen:sc.isGenerator=false
  nd:N.Nodup
  pre:N.take P.length=P
  par:∀ x ∈ P,sc.names.lookup x=some .local ∨ sc.names.lookup x=some .cell
  nofree:∀ y ∈ sc.names,y.2 ≠ .free

theorem bindL_out {kindOf:Str→Option NameKind}{x:Str}:∀ {binds:List (Str × Value)}{m:Str→Option Value},(∀ v,(x,v) ∉ binds)→bindL kindOf binds m x=m x
  | [],_,_=>rfl
  | (n,v) :: r,m,h=>by
    unfold bindL
    rw [bindL_out fun w hw=>h w (List.mem_cons_of_mem _ hw)]
    split
    · have:x ≠ n:=by rintro rfl;exact h v List.mem_cons_self
      simp [this]
    · rfl
theorem bindC_out {kindOf:Str→Option NameKind}{x:Str}:∀ {binds:List (Str × Value)}{m:Str→Option Value},(∀ v,(x,v) ∉ binds)→bindC kindOf binds m x=m x
  | [],_,_=>rfl
  | (n,v) :: r,m,h=>by
    unfold bindC
    rw [bindC_out fun w hw=>h w (List.mem_cons_of_mem _ hw)]
    split
    · rfl
    · have:x ≠ n:=by rintro rfl;exact h v List.mem_cons_self
      simp [this]
theorem bindL_get {kindOf:Str→Option NameKind}{x:Str}{v:Value}:∀ {P:List Str}{vs:List Value}{i:Nat}{m:Str→Option Value},P.Nodup→P[i]?=some x→vs[i]?=some v→kindOf x=some .local →
    bindL kindOf (P.zip vs) m x=some v
  | [],_,_,_,_,h,_,_=>by simp at h
  | _ :: _,[],_,_,_,_,h,_=>by simp at h
  | p :: P,w :: vs,0,m,nd,h1,h2,hk=>by
    simp at h1 h2;subst h1;subst h2
    show bindL kindOf ((p,w) :: P.zip vs) m p=_
    unfold bindL
    rw [bindL_out fun v hv=>(List.nodup_cons.mp nd).1 (List.of_mem_zip hv).1,if_pos hk]
    simp
  | p :: P,w :: vs,i + 1,m,nd,h1,h2,hk=>by
    show bindL kindOf ((p,w) :: P.zip vs) m x=_
    unfold bindL
    exact bindL_get (i:=i) (List.nodup_cons.mp nd).2 (by simpa using h1) (by simpa using h2) hk
theorem bindC_get {kindOf:Str→Option NameKind}{x:Str}{v:Value}:∀ {P:List Str}{vs:List Value}{i:Nat}{m:Str→Option Value},P.Nodup→P[i]?=some x→vs[i]?=some v→kindOf x ≠ some .local →
    bindC kindOf (P.zip vs) m x=some v
  | [],_,_,_,_,h,_,_=>by simp at h
  | _ :: _,[],_,_,_,_,h,_=>by simp at h
  | p :: P,w :: vs,0,m,nd,h1,h2,hk=>by
    simp at h1 h2;subst h1;subst h2
    show bindC kindOf ((p,w) :: P.zip vs) m p=_
    unfold bindC
    rw [bindC_out fun v hv=>(List.nodup_cons.mp nd).1 (List.of_mem_zip hv).1,if_neg hk]
    simp
  | p :: P,w :: vs,i + 1,m,nd,h1,h2,hk=>by
    show bindC kindOf ((p,w) :: P.zip vs) m x=_
    unfold bindC
    exact bindC_get (i:=i) (List.nodup_cons.mp nd).2 (by simpa using h1) (by simpa using h2) hk

noncomputable def start (N:List Str) (vs:List V):St:=vs.map some ++ List.replicate (N.length - vs.length) none

noncomputable def cxOf (CX:CXT) (P:Program) (w:World) (K:PySem.W.Frag) (mg:Str→Option Value) (base:Heap) (N:List Str) (qual:Str) (scope:Scope) (f:Addr) (cd:Value) (A:Around) (outer:List Env) (s:Shared) (H:Hp) (E:XK):Cx where
  prog:=P
  w:=w
  K:=K
  mg:=mg
  base:=base
  A:=A.deeper (envOfC qual scope s.heap.objs.size f cd)
  N:=N
  s₀:=s
  H₀:=H
  env:=envOfC qual scope s.heap.objs.size f cd
  outer:=outer
  stack:=envOfC qual scope s.heap.objs.size f cd :: outer
  ex:=[]
  calm:=true
  fn:=fun _=>true
  pn:=[]
  xe:=fun e s'=>wpAny (model P w) (A.deeper (envOfC qual scope s.heap.objs.size f cd)) (leaving (envOfC qual scope s.heap.objs.size f cd) e) (fun _ s''=>CX outer H s E e s'') (fun e' s''=>CX outer H s E e' s'') s'

theorem cell_has {sc:Scope}{n:Nat}{x:Str} (h:sc.names.lookup x=some .cell):∃ c,(cellsFrom n sc.names []).lookup x=some c:=by
  have q:=PySem.W.cellsFrom_some sc.names n [] (.inl h)
  exact Option.isSome_iff_exists.mp q

theorem inv_start {CX:CXT}{P:Program}{w:World}{K:PySem.W.Frag}{mg:Str→Option Value}{base:Heap}{N ps:List Str}{qual:Str}{scope:Scope}{f:Addr}{cd:Value}{A:Around}{outer:List Env}{s s1:Shared}{H:Hp}{E:XK}{us:List Value}{vs:List V}
    (S:FnScope N ps scope) (hd:A.handled=none) (e0:Env0 P w K mg base A outer s H) (hl:vs.length=ps.length) (r:Vals vs us)
    (x:InCallC s s.heap.objs.size (bindL (envOfC qual scope s.heap.objs.size f cd).kindOf (ps.zip us) fun _=>none) (cellsFrom (s.heap.objs.size + 1) scope.names []) (bindC (envOfC qual scope s.heap.objs.size f cd).kindOf (ps.zip us) fun _=>none) s1) :
    Inv (cxOf CX P w K mg base N qual scope f cd A outer s H E) [] (start N vs) H s1:=by
  have hpl:ps.length≤N.length:=by have:=congrArg List.length S.pre;rw [List.length_take] at this;omega
  obtain ⟨h1,tk,rfl,hk⟩:=x.done
  have noA:∀ b:Addr,b ∉ (cxOf CX P w K mg base N qual scope f cd A outer s H E).ex:=fun b z=>absurd (show b ∈ ([]:List Addr) from z) (by simp)
  refine ⟨⟨e0.mod,S.kind,rfl,rfl,Nat.le_refl _,fun y z c h1 h2=>?_,fun y hy=>?_,fun y c _ h=>?_,fun _=>hd,Around.frames_deeper e0.frames,.inr ⟨rfl,rfl⟩,fun b z=>absurd z (noA b),e0.bs,e0.bsz,fun b _ _=>noA b,fun b z=>absurd z (noA b),e0.funs,e0.frf⟩,
    rfl,e0.bare,Un.kept hk,⟨_,x.toInCall.ns,fun i y v h1 h2 h3=>?_⟩,fun y c h=>⟨_,x.cell y c h⟩,e0.hok.fresh (Nat.le_refl _),fun y c h=>?_,fun p hp=>absurd (show p ∈ ([]:List (Addr × Obj)) from hp) (by simp),e0.hok.kept hk,?_⟩
  · exact name_of_addr x.apart (PySem.mem_of_lookup h1) (PySem.mem_of_lookup h2)
  · have hy:scope.names.lookup y=some .cell ∨ scope.names.lookup y=some .free:=hy
    rcases hy with hy | hy
    · exact cell_has hy
    · exact absurd rfl (S.nofree _ (PySem.mem_of_lookup hy))
  · exact Nat.le_of_lt (x.above y c (PySem.mem_of_lookup h))
  · have hi:i < vs.length:=by
      unfold start at h2
      by_cases hi:i < vs.length
      · exact hi
      · rw [List.getElem?_append_right (by simpa using hi)] at h2
        rw [List.getElem?_replicate] at h2
        split at h2 <;> cases h2
    have ha:vs[i]?=some v:=by
      unfold start at h2
      rw [List.getElem?_append_left (by simpa using hi),List.getElem?_map] at h2
      cases e:vs[i]? with
      | none=>rw [e] at h2;cases h2
      | some a=>rw [e] at h2;cases h2;rfl
    obtain ⟨u,hu,rv⟩:=r.get ha
    have hp:ps[i]?=some y:=by
      rw [← S.pre,List.getElem?_take_of_lt (by omega)];exact h1
    have ndP:ps.Nodup:=by rw [← S.pre];exact S.nd.sublist (List.take_sublist _ _)
    refine ⟨u,rv,?_⟩
    rcases S.par y (List.mem_of_getElem? hp) with k | k
    · exact .inl ⟨k,bindL_get ndP hp hu k⟩
    · obtain ⟨c,e⟩:=cell_has (n:=s.heap.objs.size + 1) k
      refine .inr ⟨.inl k,c,e,?_⟩
      have q:=x.cell y c e
      rw [bindC_get ndP hp hu (by show scope.names.lookup y ≠ _;rw [k];decide)] at q
      exact q
  · exact e0.hok.fresh (Nat.le_of_lt (x.above y c (PySem.mem_of_lookup h)))
  · unfold start
    show _=N.length
    rw [List.length_append,List.length_map,List.length_replicate]
    omega

theorem fn_of {CX:CXT}{P:Program}{w:World}{K:PySem.W.Frag}{mg:Str→Option Value}{base:Heap}{k:Nat}{f:Addr}{name qual:Str}{params:Arguments}{body:List Stmt}{scope:Scope}{dV kV doc pm cdv ct oc:Value}{an od:Option Addr}
    {osl:Array (Option Value)}{N ps:List Str}{sp:Sp} (lk:K.lookup f=some ⟨oc,od,.func (PySem.W.fnOf name qual params body scope dV kV doc pm an cdv ct),osl⟩) (hcd:PySem.W.codeIn K cdv qual=true) (S:FnScope N ps scope)
    (len:∀ vs H Q E,sp vs H Q E→vs.length=ps.length)
    (hbody:∀ (A:Around) (outer:List Env) (s:Shared) (H:Hp) (vs:List V) (Q:VK) (E:XK),Room k (A.deeper (envOfC qual scope s.heap.objs.size f cdv))→sp vs H Q E →
      ∃ t,PSs (cxOf CX P w K mg base N qual scope f cdv A outer s H E) body t∧t { nx:=fun _ H'=>Q .non H',rt:=Q } (start N vs) H) :
    FnOk P w K mg base CX (k + 1) f (PySem.W.fnOf name qual params body scope dV kV doc pm an cdv ct) ps sp:=by
  refine ⟨len,fun A outer s H args us vs Q E hr e0 hb r hsp=>?_⟩
  have hl:=len _ _ _ _ hsp
  have KX:K.In s.heap:=e0.mod.kin.keeps fun b o e=>(e0.bs b o e).1
  have lim:s.heap.NoLimit:=e0.mod.nolimit.keeps fun b o e=>(e0.bs b o e).1
  have hkind:∀ y ∈ ps.zip us,scope.names.lookup y.1=some .local ∨ (scope.names.lookup y.1=some .cell∧((cellsFrom (s.heap.objs.size + 1) scope.names []).lookup y.1).isSome=true):=fun ⟨n,v⟩ hy=>by
    rcases S.par n (List.of_mem_zip hy).1 with q | q
    · exact .inl q
    · exact .inr ⟨q,PySem.W.cellsFrom_some _ _ _ (.inl q)⟩
  refine codeAny_call_function hr.depth (KX _ _ lk) rfl S.co S.gen rfl (PySem.W.codeRec_of KX hcd) (hb _ _ _ _ ?_)
  refine wpAny_newFunctionEnv_cells S.kind hkind fun env he s1 x=>?_
  subst he
  refine ⟨lim.keeps x.toInCall.keep,codeAny_func ?_⟩
  obtain ⟨t,ht,hq⟩:=hbody A outer s H vs Q E (hr.deeper _) hsp
  have I:Inv (cxOf CX P w K mg base N qual scope f cdv A outer s H E) [] (start N vs) H s1:=inv_start S hr.hd e0 hl r x
  refine wpAny_mono (ht [] s1 (start N vs) H _ I hq) (fun fl s' hs=>?_) fun e s' hs=>hs
  have fin:∀ {σ':St}{H':Hp}{v:V}{u:Value},Inv (cxOf CX P w K mg base N qual scope f cdv A outer s H E) [] σ' H' s'→RelV v u→Q v H'→CE outer P w H s Q u s':=
    fun {σ' H' v u} J rv q=>⟨v,H',J.os,J.bare,J.base,J.hok,rv,q⟩
  cases fl with
  | ret u =>
    obtain ⟨v,σ',H',J,rv,q⟩:=hs
    exact fin J rv q
  | next =>
    obtain ⟨σ',H',J,q⟩:=hs
    exact fin (v:=V.non) (u:=Value.none) J rfl q
  | brk =>
    obtain ⟨_,_,_,q⟩:=hs
    exact False.elim q
  | cont =>
    obtain ⟨_,_,_,q⟩:=hs
    exact False.elim q
end L2

namespace L2
open PySem PySem.Spec PyProof.Rows
section
variable {X:Cx}{x:Str}{p pos:Pos}{e:Expr}{es:List Expr}{t:TA}{id T:String}{r:List V→Hp→VK→Prop}

noncomputable def tCB (r:List V→Hp→VK→Prop) (t:TA):TE:=fun σ H Q=>t σ H fun vs H1=>r vs H1 Q
theorem pe_callB (hc:CallR X (.builtin id) r) (hg:Gl X x) (hm:X.mg x=none) (hv:bootBuiltins x=some (.builtin id)) (ha:PA X (e :: es) t) (hn:x ≠ "__name__":=by decide) (hdb:(x == ("__debug__" : Str))=false:=by decide)
    (he:starEach (e :: es) X.env=(false,eval e X.env) :: starEach es X.env:=by rfl) (hpl:(backTo pos (starEach es X.env)).any (·.1)=false:=by rfl):PE X (.Call (.Name x p) (e :: es) [] pos) (tCB r t):=by
  intro pins s σ H Q I h
  refine wpAny_Call_Name_kw (ld_blt I hg hm hv ?_ hn hdb)
  exact PyProof.Rows.callWith_builtin1 (thn (ha pos pins s σ H _ I h) fun us s1 ⟨vs,H1,I1,r1,q1⟩=>hc pins s1 σ H1 vs us Q I1 r1 q1) he hpl
theorem pe_callTy (hc:CallR X (.type T) r) (hg:Gl X x) (hm:X.mg x=none) (hv:bootBuiltins x=some (.type T)) (ha:PA X (e :: es) t) (hn:x ≠ "__name__":=by decide) (hdb:(x == ("__debug__" : Str))=false:=by decide)
    (he:starEach (e :: es) X.env=(false,eval e X.env) :: starEach es X.env:=by rfl) (hpl:(backTo pos (starEach es X.env)).any (·.1)=false:=by rfl):PE X (.Call (.Name x p) (e :: es) [] pos) (tCB r t):=by
  intro pins s σ H Q I h
  refine wpAny_Call_Name_kw (ld_blt I hg hm hv ?_ hn hdb)
  exact PyProof.Rows.callWith_type1 (thn (ha pos pins s σ H _ I h) fun us s1 ⟨vs,H1,I1,r1,q1⟩=>hc pins s1 σ H1 vs us Q I1 r1 q1) he hpl
end
end L2

namespace HT
open PySem PyProof.Rows

section
open PySem.SeqAt
open PySem.AutoSeq1 (wpAny_loadPart')
open PySem.MeetsSeq PySem.MeetsSeq2 PySem.MeetsSeq3

end

section
variable {prog:Program}{w:World}{A:Around}{E:Value→Shared→Prop}{s:Shared}

/-! ### t[a:b], not the whole -/
noncomputable def sIx (n d:Nat):Option Int→Nat
  | none=>d
  | some v=>if v < 0 then (v + (n:Int)).toNat else min v.toNat n
theorem sIx_none (n d:Nat):sIx n d none=d:=rfl
theorem sIx_nat (n d k:Nat):sIx n d (some (k:Int))=min k n:=by
  show (if (k:Int) < 0 then ((k:Int) + (n:Int)).toNat else min (k:Int).toNat n)=min k n
  rw [if_neg (by omega),Int.toNat_natCast]
end
end HT

namespace L2
open PySem PySem.Spec PyProof.Rows

/-! ### the parts of a slice -/
noncomputable abbrev TO:=St→Hp→(Option Int→Hp→Prop)→Prop
noncomputable def PO (X:Cx) (e:Option Expr) (t:TO):Prop:=
  ∀ (pins:List (Addr × Obj)) (s:Shared) (σ:St) (H:Hp) (Q:Option Int→Hp→Prop),Inv X pins σ H s→t σ H Q →
    wpAny (model X.prog X.w) X.A (evalPart e X.env) (fun u s'=>∃ o H',Inv X pins σ H' s'∧IsPart u o∧Q o H') X.xe s
noncomputable def tNoPart:TO:=fun _ H Q=>Q none H
noncomputable def tPart (t:TE):TO:=fun σ H Q=>t σ H fun x H1=>∃ i,x = .int i∧Q (some i) H1

theorem intsAre_of {ns:List Int}:∀ {us:List Value},Vals (ns.map V.int) us→IntsAre us ns:=by
  induction ns with
  | nil=>intro us r;rw [List.map_nil] at r;cases r;exact .nil
  | cons n ns ih =>
    intro us r
    rw [List.map_cons] at r
    cases r with
    | cons r1 r2 =>
      obtain ⟨t,e⟩:=r1
      subst e
      exact .cons n t (ih r2)

section
variable {X:Cx}{e:Expr}{te:TE}{lo hi:Option Expr}{tl th:TO}{pos p2:Pos}

theorem po_none:PO X none tNoPart:=by
  intro pins s σ H Q I h
  rw [evalPart_none]
  exact wpAny_pure ⟨none,H,I,.none,h⟩
theorem po_some (h:PE X e te):PO X (some e) (tPart te):=by
  intro pins s σ H Q I hw
  rw [evalPart_some]
  refine thn (h pins s σ H _ I hw) fun u s1 zz=>?_
  obtain ⟨x,H1,I1,r1,q1⟩:=zz
  obtain ⟨i,rfl,q⟩:=q1
  obtain ⟨t,rfl⟩:=r1
  exact ⟨some i,H1,I1,.int i t,q⟩

noncomputable def SlR (X:Cx) (r:V→Option Int→Option Int→Hp→VK→Prop):Prop:=
  ∀ (pins:List (Addr × Obj)) (s:Shared) (σ:St) (H:Hp) (x:V) (v vl vu:Value) (lo hi:Option Int) (sl:Addr) (Q:VK),Inv X pins σ H s→RelV x v→s.heap.IsSliceOf sl vl vu .none→IsPart vl lo→IsPart vu hi→r x lo hi H Q →
    ∃ T id,typeLookup (.type T) "__getitem__"=pure (some (.builtin id))∧s.TypeIs v T∧wpAny (model X.prog X.w) X.A (getItem v (.ref sl)) (EP X pins σ Q) X.xe s
noncomputable def tSl (r:V→Option Int→Option Int→Hp→VK→Prop) (te:TE) (tl th:TO):TE:=fun σ H Q=>te σ H fun x H1=>tl σ H1 fun l H2=>th σ H2 fun u H3=>r x l u H3 Q
theorem pe_slice {r:V→Option Int→Option Int→Hp→VK→Prop} (hr:SlR X r) (he:PE X e te) (hl:PO X lo tl) (hu:PO X hi th):PE X (.Subscript e (.Slice lo hi none p2) pos) (tSl r te tl th):=by
  intro pins s σ H Q I h
  refine Subscript_ (thn (he pins s σ H _ I h) fun v s1 zz=>?_)
  obtain ⟨x,H1,I1,r1,q1⟩:=zz
  refine wpAny_Slice (thn (hl pins s1 σ H1 _ I1 q1) fun vl s2 ⟨l,H2,I2,pl,q2⟩=>thn (hu pins s2 σ H2 _ I2 q2) fun vu s3 zz=>?_)
  obtain ⟨u,H3,I3,pu,q3⟩:=zz
  rw [evalPart_none]
  refine wpAny_pure ?_
  have I4:Inv X pins σ H3 { s3 with heap:=s3.heap.push { cls:=.type "slice",data:=.fields #[vl,vu,.none] } }:=I3.kept (t':=s3.toks) fun b ob q=>Heap.get?_push_of_some _ q
  obtain ⟨T,id,hT,ht,hg⟩:=hr pins { s3 with heap:=s3.heap.push { cls:=.type "slice",data:=.fields #[vl,vu,.none] } } σ H3 x v vl vu l u s3.heap.objs.size Q I4 r1 (Heap.IsSliceOf.new ..) pl pu q3
  show wpAny (model X.prog X.w) X.A (subscriptTail e (.Slice lo hi none p2) v (.ref s3.heap.objs.size)) (EP X pins σ Q) X.xe { s3 with heap:=s3.heap.push { cls:=.type "slice",data:=.fields #[vl,vu,.none] } }
  exact tail_any (ops:=[.ref s3.heap.objs.size,v]) ht hT hg (by with_unfolding_all rfl)

noncomputable def cutV (xs:List V) (lo hi:Option Int):List V:=(xs.drop (HT.sIx xs.length 0 lo)).take (HT.sIx xs.length xs.length hi - HT.sIx xs.length 0 lo)
theorem cutV_length (xs:List V) (lo hi:Option Int):(cutV xs lo hi).length≤xs.length:=by
  unfold cutV
  rw [List.length_take,List.length_drop]
  omega
/-! ### t < u, t + u -/
end
end L2

namespace L2
open PySem PySem.Spec PyProof.Rows

/-! ### places -/
noncomputable def ixN (n:Nat) (i:Int):Option Nat:=if 0≤i then (if i < n then some i.toNat else none) else if -(n:Int)≤i then some (i + n).toNat else none
noncomputable def atI {α:Type} (xs:List α) (i:Int):Option α:=(ixN xs.length i).bind fun j=>xs[j]?
theorem ixN_seq {n:Nat}{i:Int}{j:Nat} (h:ixN n i=some j):seqIndex? i n=some j∧j < n∧-(n:Int)≤i∧i < n:=by
  unfold ixN at h
  by_cases h0:0≤i
  · rw [if_pos h0] at h
    by_cases h1:i < n
    · rw [if_pos h1] at h
      have e:i.toNat=j:=Option.some.inj h
      exact ⟨by rw [seqIndex_of h0 h1,e],by omega,by omega,h1⟩
    · rw [if_neg h1] at h;cases h
  · rw [if_neg h0] at h
    by_cases h1:-(n:Int)≤i
    · rw [if_pos h1] at h
      have e:(i + n).toNat=j:=Option.some.inj h
      exact ⟨by rw [seqIndex_neg (by omega) h1,e],by omega,h1,by omega⟩
    · rw [if_neg h1] at h;cases h
theorem atI_get {α:Type}{xs:List α}{i:Int}{v:α} (h:atI xs i=some v):∃ j,seqIndex? i xs.length=some j∧xs[j]?=some v∧j < xs.length∧-(xs.length:Int)≤i∧i < xs.length:=by
  unfold atI at h
  cases e:ixN xs.length i with
  | none=>rw [e] at h;cases h
  | some j =>
    rw [e] at h
    obtain ⟨h1,h2,h3,h4⟩:=ixN_seq e
    exact ⟨j,h1,h,h2,h3,h4⟩
theorem atI_nat {α:Type}{xs:List α}{j:Nat}{v:α} (h:xs[j]?=some v):atI xs (j:Int)=some v:=by
  have hj:j < xs.length:=(List.getElem?_eq_some_iff.mp h).1
  have e:ixN xs.length (j:Int)=some j:=by
    unfold ixN
    rw [if_pos (by omega),if_pos (by omega)];simp
  unfold atI;rw [e];exact h
/-! ### what may be subscripted -/
noncomputable def PlainIx (b:Expr):Prop:=∀ o i,subscripted b false o i=operate [o,i] (getItem o i)
noncomputable def IxR (X:Cx) (r:R2):Prop:=
  ∀ (value slice:Expr) (pins:List (Addr × Obj)) (s:Shared) (σ:St) (H:Hp) (x y:V) (v u:Value) (Q:VK),Inv X pins σ H s→RelV x v→RelV y u→r x y H Q →
    subscripted slice false v u=operate [v,u] (getItem v u)→wpAny (model X.prog X.w) X.A (subscriptTail value slice v u) (EP X pins σ Q) X.xe s
noncomputable def MtR (X:Cx) (id:String) (r:V→List V→Hp→VK→Prop):Prop:=
  ∀ (pins:List (Addr × Obj)) (s:Shared) (σ:St) (H:Hp) (x:V) (xs:List V) (v:Value) (us:List Value) (Q:VK),Inv X pins σ H s→RelV x v→Vals xs us→r x xs H Q →
    wpAny (model X.prog X.w) X.A (call (.builtin id) (v :: us)) (EP X pins σ Q) X.xe s
section
variable {X:Cx}{a b:Expr}{ta tb:TE}{pos:Pos}
theorem pe_ix {r:R2} (hr:IxR X r) (ha:PE X a ta) (hb:PE X b tb) (hs:PlainIx b):PE X (.Subscript a b pos) (tOp r ta tb):=by
  intro pins s σ H Q I h
  exact Subscript_ (binT ha hb I h fun v u s2 x y H2 I2 rx ry q=>hr a b pins s2 σ H2 x y v u Q I2 rx ry q (hs _ _))

noncomputable def rIxL (K:PySem.W.Frag):R2:=fun x y H Q=>∃ p xs i v,x = .ref p∧y = .int i∧SqL K H p xs∧atI xs i=some v∧Q v H
noncomputable def rIxT (K:PySem.W.Frag):R2:=fun x y H Q=>∃ p xs i v,x = .ref p∧y = .int i∧SqT K H p xs∧atI xs i=some v∧Q v H
noncomputable def rIxS:R2:=fun x y H Q=>∃ z i c,x = .str z∧y = .int i∧z.length≤sizeLine∧atI z.cps.toList i=some c∧Q (.str ⟨#[c]⟩) H
theorem ix_list:IxR X (rIxL X.K):=by
  intro value slice pins s σ H x y v u Q I rx ry h hs
  obtain ⟨p,xs,i,z,rfl,rfl,hq,he,q⟩:=h
  cases rx
  obtain ⟨t,rfl⟩:=ry
  obtain ⟨its,r,pl,hz⟩:=I.list hq
  obtain ⟨j,h1,h2,h3,h4,h5⟩:=atI_get he
  obtain ⟨w,ew,rw'⟩:=r.get h2
  have hl:=r.length
  have hn:=line63
  have fin:EP X pins σ Q w s:=⟨z,H,I,rw',q⟩
  by_cases h0:0≤i
  · have hj:i.toNat=j:=by
      rw [seqIndex_of h0 h5] at h1
      exact Option.some.inj h1
    exact item_listR pl.isList h0 (by omega) (by rw [hj];simpa using ew) fin hs
  · have hj:(i + (its.toArray.size:Int)).toNat=j:=by
      rw [seqIndex_neg (by omega) h4] at h1
      rw [List.size_toArray,← hl]
      exact Option.some.inj h1
    exact subscriptTail_builtinR (x:=w) pl.isList.typeIs slot_list_getitem.lookup
      (wpAny_getItem_list_neg (Q:=fun r s'=>r=w∧EP X pins σ Q r s') pl.isList (by omega) (by rw [List.size_toArray] <;> omega) (by omega) (by rw [hj];simpa using ew) ⟨rfl,fin⟩) hs
theorem ix_tup:IxR X (rIxT X.K):=by
  intro value slice pins s σ H x y v u Q I rx ry h hs
  obtain ⟨p,xs,i,z,rfl,rfl,hq,he,q⟩:=h
  cases rx
  obtain ⟨t,rfl⟩:=ry
  obtain ⟨its,r,pl,hz⟩:=I.tuple hq
  obtain ⟨j,h1,h2,h3,h4,h5⟩:=atI_get he
  obtain ⟨w,ew,rw'⟩:=r.get h2
  have hl:=r.length
  have hn:=line63
  have fin:EP X pins σ Q w s:=⟨z,H,I,rw',q⟩
  exact subscriptTail_builtinR (x:=w) pl.typeIs slot_tuple_getitem.lookup
    (getItem_tuple (j:=j) (Q:=fun r s'=>r=w∧EP X pins σ Q r s') pl (by omega) (by omega) (by rw [List.size_toArray,← hl];exact h1) (by simpa using ew) ⟨rfl,fin⟩) hs
theorem ix_str:IxR X rIxS:=by
  intro value slice pins s σ H x y v u Q I rx ry h hs
  obtain ⟨z,i,c,rfl,rfl,hz,he,q⟩:=h
  obtain ⟨t,rfl⟩:=rx
  obtain ⟨t',rfl⟩:=ry
  obtain ⟨j,h1,h2,h3,h4,h5⟩:=atI_get he
  have hl:z.cps.toList.length=z.length:=by simp [Str.length]
  rw [hl] at h1 h4 h5
  have hn:=line63
  exact tail_any (typeIs_str s z t) slot_str_getitem.lookup (getItem_str (c:=c) (by
    have e1:decide (i < -(2 ^ 63:Int))=false:=decide_eq_false (by omega)
    have e2:decide (i ≥ 2 ^ 63)=false:=decide_eq_false (by omega)
    rw [e1,e2,Bool.or_false]) (by rw [h1];simpa using h2) ⟨.str ⟨#[c]⟩,H,I.tok _,⟨_,rfl⟩,q⟩) hs
/-! ### xs[i] = v, any sign -/
theorem mapSeq_set (its:List Value) (n j:Nat) (u:Value):Obj.mapSeq (·.setIfInBounds j u) { cls:=.type "list",data:=.seq its.toArray n } = { cls:=.type "list",data:=.seq (its.set j u).toArray n }:=by
  simp [Obj.mapSeq]
theorem Inv.lst {pins:List (Addr × Obj)}{σ:St}{H:Hp}{s:Shared}{p:Addr}{xs:List V} (I:Inv X pins σ H s) (h:H p=some (.lst xs)) :
    ∃ (its:List Value) (n:Nat),Vals xs its∧s.heap.get? p=some { cls:=.type "list",data:=.seq its.toArray n }∧xs.length≤sizeLine:=by
  obtain ⟨z,its,n,r,e⟩:=I.hok p _ h
  exact ⟨its,n,r,e,z⟩
theorem Inv.lstUpd {pins:List (Addr × Obj)}{σ:St}{H:Hp}{s:Shared}{p:Addr}{xs ys:List V}{its its':List Value}{n n':Nat}{f:Obj→Obj} (I:Inv X pins σ H s) (h:H p=some (.lst xs))
    (ho:s.heap.get? p=some { cls:=.type "list",data:=.seq its.toArray n }) (hf:f { cls:=.type "list",data:=.seq its.toArray n } = { cls:=.type "list",data:=.seq its'.toArray n' }) (r:Vals ys its') (hz:ys.length≤sizeLine) (t:Nat) :
    Inv X pins σ (upd H p (.lst ys)) { s with heap:=s.heap.update p f,toks:=t }:=by
  have e:(s.heap.update p f).get? p=some { cls:=.type "list",data:=.seq its'.toArray n' }:=by
    rw [Heap.get?_update_self f ho (by rw [hf] <;> rfl),hf]
  refine I.write (x:=p) (e:=p) (by rw [h];trivial) (.inl rfl) (fun b u hb q=>(Heap.get?_update_other _ _ (Ne.symm hb)).trans q) ⟨_,e⟩ ?_
  exact ⟨hz,its',n',r,e⟩
noncomputable def rSetL:V→V→V→Hp→(Hp→Prop)→Prop:=fun o i v H Q=>∃ p xs k j,o = .ref p∧i = .int k∧H p=some (.lst xs)∧ixN xs.length k=some j∧Q (upd H p (.lst (xs.set j v)))
theorem set_list:PSet X rSetL:=by
  intro pins s σ H o i v ov iv u Q I ro ri rv h
  obtain ⟨p,xs,k,j,rfl,rfl,hp,hj,q⟩:=h
  cases ro
  obtain ⟨t,rfl⟩:=ri
  obtain ⟨its,n,r,ho,hz⟩:=I.lst hp
  obtain ⟨h1,h2,h3,h4⟩:=ixN_seq hj
  have hl:=r.length
  have hn:=line63
  have I':Inv X pins σ (upd H p (.lst (xs.set j v))) { s with heap:=s.heap.update p (Obj.mapSeq (·.setIfInBounds j u)) }:=
    I.lstUpd hp ho (mapSeq_set its n j u) (r.set rv j) (by rw [List.length_set];exact hz) s.toks
  by_cases h0:0≤k
  · have hk:k.toNat=j:=by
      rw [seqIndex_of h0 h4] at h1
      exact Option.some.inj h1
    exact PySem.W.ki_setAt ho h0 (by omega) (by rw [List.size_toArray,← hl];exact h4) (by rw [hk];exact ⟨_,I',q⟩)
  · have hk:(k + (its.toArray.size:Int)).toNat=j:=by
      rw [seqIndex_neg (by omega) h3] at h1
      rw [List.size_toArray,← hl]
      exact Option.some.inj h1
    exact PySem.W.ki_setBack ho (by omega) (by rw [List.size_toArray,← hl];exact h3) (by omega) (by rw [hk];exact ⟨_,I',q⟩)

/-! ### slices -/
theorem slice_bounds (lo hi:Option Int) (n:Nat):(sliceBounds lo hi none n).1=((HT.sIx n 0 lo:Nat):Int)∧(sliceBounds lo hi none n).2.1=((HT.sIx n n hi:Nat):Int)∧(sliceBounds lo hi none n).2.2=1:=by
  refine ⟨?_,?_,rfl⟩
  · cases lo with
    | none=>simp [sliceBounds,HT.sIx]
    | some i =>
      simp only [sliceBounds,HT.sIx,Option.getD_none,show (1:Int) > 0 by decide,if_true]
      by_cases h:i < 0
      · simp only [h,if_true] <;> omega
      · simp only [h,if_false] <;> omega
  · cases hi with
    | none=>simp [sliceBounds,HT.sIx]
    | some i =>
      simp only [sliceBounds,HT.sIx,Option.getD_none,show (1:Int) > 0 by decide,if_true]
      by_cases h:i < 0
      · simp only [h,if_true] <;> omega
      · simp only [h,if_false] <;> omega
theorem slicePick_cut (its:List Value) (lo hi:Option Int):slicePick its.toArray lo hi none=((its.drop (HT.sIx its.length 0 lo)).take (HT.sIx its.length its.length hi - HT.sIx its.length 0 lo)).toArray:=by
  obtain ⟨h1,h2,h3⟩:=slice_bounds lo hi its.toArray.size
  unfold slicePick
  rw [h1,h2,h3]
  simp only [sliceRange_one,pick_run,List.size_toArray] <;> rfl
noncomputable def rSlL (K:PySem.W.Frag):V→Option Int→Option Int→Hp→VK→Prop:=fun x lo hi H Q=>∃ a xs,x = .ref a∧SqL K H a xs∧∀ p,H p=none→Q (.ref p) (upd H p (.lst (cutV xs lo hi)))
theorem sl_list:SlR X (rSlL X.K):=by
  intro pins s σ H x v vl vu lo hi sl Q I rx hs pl pu h
  obtain ⟨a,xs,rfl,hx,q⟩:=h
  cases rx
  obtain ⟨its,r,ht,hz⟩:=I.list hx
  have hlen:=r.length
  refine ⟨"list",_,slot_list_getitem.lookup,ht.isList.typeIs,?_⟩
  refine wpAny_getItem_list_slice ht.isList hs pl pu .none (by simp) ?_ (by rw [List.size_toArray] <;> omega)
  rw [slicePick_cut,← hlen]
  refine ⟨.ref s.heap.objs.size,_,I.laid (t':=s.toks) (o:=.lst (cutV xs lo hi)) (fun b ob q=>Heap.get?_push_of_some _ q) (Nat.le_refl _) ?_,rfl,q _ (I.hok.fresh (Nat.le_refl _))⟩
  exact ⟨Nat.le_trans (cutV_length xs lo hi) hz,_,0,(r.drop (HT.sIx xs.length 0 lo)).take (HT.sIx xs.length xs.length hi - HT.sIx xs.length 0 lo),Heap.get?_push_size _ rfl⟩

/-! ### in, not in: flat items -/
noncomputable def flatV:V→Bool
  | .non=>true
  | .bl _=>true
  | .int _=>true
  | .str _=>true
  | _=>false
noncomputable def eqV:V→V→Bool
  | .non,.non=>true
  | .bl a,.bl b=>a == b
  | .bl a,.int b=>(if a then 1 else 0) == b
  | .int a,.bl b=>a == (if b then 1 else 0)
  | .int a,.int b=>a == b
  | .str a,.str b=>a == b
  | _,_=>false
theorem eqAt_V {A:Around}{s:Shared}{y x:V}{u v:Value} (ry:RelV y u) (rx:RelV x v) (fy:flatV y=true) (fx:flatV x=true):SeqAt.EqAt A s u v (eqV y x):=by
  cases y with
  | non =>
    cases ry
    cases x with
    | non=>cases rx;exact SeqAt.EqAt.same _
    | bl b=>cases rx;exact SeqAt.EqAt.none_bool b
    | int b=>obtain ⟨t,rfl⟩:=rx;exact SeqAt.EqAt.none_int b t
    | str b=>obtain ⟨t,rfl⟩:=rx;exact SeqAt.EqAt.none_str b t
    | _=>exact absurd (show false=true from fx) Bool.false_ne_true
  | bl a =>
    cases ry
    cases x with
    | non=>cases rx;exact SeqAt.EqAt.bool_none a
    | bl b=>cases rx;exact SeqAt.EqAt.bool_bool a b
    | int b=>obtain ⟨t,rfl⟩:=rx;exact SeqAt.EqAt.bool_int a b t
    | str b=>obtain ⟨t,rfl⟩:=rx;exact SeqAt.EqAt.bool_str a b t
    | _=>exact absurd (show false=true from fx) Bool.false_ne_true
  | int a =>
    obtain ⟨t',rfl⟩:=ry
    cases x with
    | non=>cases rx;exact SeqAt.EqAt.int_none a t'
    | bl b=>cases rx;exact SeqAt.EqAt.int_bool a t' b
    | int b=>obtain ⟨t,rfl⟩:=rx;exact SeqAt.EqAt.int_int a t' b t
    | str b=>obtain ⟨t,rfl⟩:=rx;exact SeqAt.EqAt.int_str a t' b t
    | _=>exact absurd (show false=true from fx) Bool.false_ne_true
  | str a =>
    obtain ⟨t',rfl⟩:=ry
    cases x with
    | non=>cases rx;exact SeqAt.EqAt.str_none a t'
    | bl b=>cases rx;exact SeqAt.EqAt.str_bool a t' b
    | int b=>obtain ⟨t,rfl⟩:=rx;exact SeqAt.EqAt.str_int a t' b t
    | str b=>obtain ⟨t,rfl⟩:=rx;exact SeqAt.EqAt.str_str a t' b t
    | _=>exact absurd (show false=true from fx) Bool.false_ne_true
  | _=>exact absurd (show false=true from fy) Bool.false_ne_true
/-! ### len, list(x), tuple(x) of any list or tuple that is read -/
theorem call_len_seq:CallR X (.builtin "len") (fun xs H Q=>∃ p ys,xs = [.ref p]∧(SqL X.K H p ys ∨ SqT X.K H p ys)∧Q (.int ys.length) H):=by
  intro pins s σ H xs us Q I r h
  obtain ⟨p,ys,rfl,hq,q⟩:=h
  obtain ⟨u,rfl,rx⟩:=vals1 r
  cases rx
  have hn:=line63
  rcases hq with hq | hq
  · obtain ⟨its,r',pl,hz⟩:=I.list hq
    have hlen:=r'.length
    exact Calls.call_len_list pl.isList (by simp only [List.size_toArray] <;> omega) ⟨.int ys.length,H,I.tok _,⟨s.toks + 1,by rw [List.size_toArray,hlen]⟩,q⟩
  · obtain ⟨its,r',pl,hz⟩:=I.tuple hq
    have hlen:=r'.length
    exact len_tuple pl (by simp only [List.size_toArray] <;> omega) ⟨.int ys.length,H,I.tok _,⟨s.toks + 1,by rw [List.size_toArray,hlen]⟩,q⟩
theorem call_len_str:CallR X (.builtin "len") (fun xs H Q=>∃ z,xs = [.str z]∧z.length≤sizeLine∧Q (.int z.length) H):=by
  intro pins s σ H xs us Q I r h
  obtain ⟨z,rfl,hz,q⟩:=h
  obtain ⟨u,rfl,t,rfl⟩:=vals1 r
  have hn:=line63
  exact len_str (by omega) ⟨.int z.length,H,I.tok _,⟨_,rfl⟩,q⟩
theorem call_list_of:CallR X (.type "list") (fun xs H Q=>∃ p ys,xs = [.ref p]∧(SqL X.K H p ys ∨ SqT X.K H p ys)∧∀ l,H l=none→Q (.ref l) (upd H l (.lst ys))):=by
  intro pins s σ H xs us Q I r h
  obtain ⟨p,ys,rfl,hq,q⟩:=h
  obtain ⟨u,rfl,rx⟩:=vals1 r
  cases rx
  have fin:∀ (its:List Value),Vals ys its→ys.length≤sizeLine→∀ (h':Heap) (c':Nat),(∀ b o',s.heap.get? b=some o'→h'.get? b=some o') →
      h'.get? s.heap.objs.size=some { cls:=.type "list",dict:=none,data:=.seq its.toArray c',slots:=#[] }→EP X pins σ Q (.ref s.heap.objs.size) { s with heap:=h' }:=fun its r' hz h' c' kp e =>
    ⟨.ref s.heap.objs.size,_,I.laid (t':=s.toks) kp (Nat.le_refl _) (show ObjOk X.prog X.w _ h' _ (.lst ys) from ⟨hz,its,c',r',e⟩),rfl,q _ (I.hok.fresh (Nat.le_refl _))⟩
  rcases hq with hq | hq
  · obtain ⟨its,r',pl,hz⟩:=I.list hq
    have hlen:=r'.length
    obtain ⟨o,ho,hc,n,hd⟩:=pl.isList
    exact call_list_seq p (.inl rfl) ho hc hd (fun h' c' kp e=>fin its r' hz h' c' kp e) (by simp only [List.size_toArray] <;> omega)
  · obtain ⟨its,r',pl,hz⟩:=I.tuple hq
    have hlen:=r'.length
    obtain ⟨o,ho,hc,n,hd⟩:=pl
    exact call_list_seq p (.inr rfl) ho hc hd (fun h' c' kp e=>fin its r' hz h' c' kp e) (by simp only [List.size_toArray] <;> omega)
theorem call_tuple_of:CallR X (.type "tuple") (fun xs H Q=>∃ p ys,xs = [.ref p]∧((SqL X.K H p ys∧∀ l,H l=none→Q (.ref l) (upd H l (.tup ys))) ∨ (SqT X.K H p ys∧Q (.ref p) H))):=by
  intro pins s σ H xs us Q I r h
  obtain ⟨p,ys,rfl,h⟩:=h
  obtain ⟨u,rfl,rx⟩:=vals1 r
  cases rx
  rcases h with ⟨hq,q⟩ | ⟨hq,q⟩
  · obtain ⟨its,r',pl,hz⟩:=I.list hq
    have hlen:=r'.length
    refine call_tuple_list pl.isList (fun h' kp=>?_) (by simp only [List.size_toArray] <;> omega)
    have I1:Inv X pins σ H { s with heap:=h' }:=I.kept (t':=s.toks) kp
    have I2:Inv X pins σ (upd H h'.objs.size (.tup ys)) { s with heap:=h'.push { cls:=.type "tuple",data:=.seq its.toArray } }:=
      I1.laid (t':=s.toks) (fun b o e=>Heap.get?_push_of_some _ e) (Nat.le_refl _) (show ObjOk X.prog X.w _ _ _ (.tup ys) from ⟨hz,its,r',IsTup.new _ _⟩)
    exact ⟨.ref h'.objs.size,_,I2,rfl,q _ (I1.hok.fresh (Nat.le_refl _))⟩
  · obtain ⟨its,r',pl,hz⟩:=I.tuple hq
    exact call_tuple_same pl ⟨.ref p,H,I,rfl,q⟩

/-! ### the call of a builtin's method: o.m(..) -/
noncomputable def tyV (K:PySem.W.Frag) (T:String) (x:V) (H:Hp):Prop:=match x with
  | .str _=>T = "str"
  | .int _=>T = "int"
  | .ref p=>(T = "list"∧∃ xs,SqL K H p xs) ∨ (T = "tuple"∧∃ o,K.lookup p=some o∧o.cls = .type "tuple"∧o.dict=none) ∨
      (T = "dict"∧((∃ kvs,H p=some (.dK kvs)) ∨ ∃ kvs,H p=some (.dT kvs))) ∨ (T = "set"∧∃ S n,H p=some (.set S n))
  | _=>False
theorem tyV_is {pins:List (Addr × Obj)}{σ:St}{H:Hp}{s:Shared}{T:String}{x:V}{v:Value} (I:Inv X pins σ H s) (r:RelV x v) (ty:tyV X.K T x H) :
    s.TypeIs v T∧∀ a,v = .ref a→∃ ob,s.heap.get? a=some ob∧ob.dict=none:=by
  cases x with
  | str z =>
    obtain ⟨t,rfl⟩:=r
    cases (show T = "str" from ty)
    exact ⟨typeIs_str s z t,fun _ e=>nomatch e⟩
  | int i =>
    obtain ⟨t,rfl⟩:=r
    cases (show T = "int" from ty)
    exact ⟨typeIs_int s i t,fun _ e=>nomatch e⟩
  | ref p =>
    cases r
    rcases ty with ⟨rfl,xs,hq⟩ | ⟨rfl,o,hk,hc,hd⟩ | ⟨rfl,hk⟩ | ⟨rfl,S,n,hk⟩
    · obtain ⟨its,_,pl,_⟩:=I.list hq
      refine ⟨pl.isList.typeIs,fun a e=>?_⟩
      cases e
      obtain ⟨o,n,e,c,hd,_⟩:=pl
      exact ⟨o,e,hd⟩
    · refine ⟨⟨o,I.kIn p o hk,hc⟩,fun a e=>?_⟩
      cases e
      exact ⟨o,I.kIn _ o hk,hd⟩
    · have z:∃ o,s.heap.get? p=some o∧o.ExactDict:=by
        rcases hk with ⟨kvs,hk⟩ | ⟨kvs,hk⟩
        · obtain ⟨_,_,_,_,o,_,_,e,ex,_⟩:=I.hok p _ hk
          exact ⟨o,e,ex⟩
        · obtain ⟨_,_,_,_,o,_,_,e,ex,_⟩:=I.hok p _ hk
          exact ⟨o,e,ex⟩
      obtain ⟨o,e,ex⟩:=z
      refine ⟨⟨o,e,ex.1⟩,fun a e2=>?_⟩
      cases e2
      exact ⟨o,e,ex.2.1⟩
    · obtain ⟨o,_,_,_,e,ex,_⟩:=I.hok p _ hk
      refine ⟨⟨o,e,ex.1⟩,fun a e2=>?_⟩
      cases e2
      exact ⟨o,e,ex.2.1⟩
  | _=>exact False.elim ty
noncomputable def tBM (K:PySem.W.Frag) (T:String) (r:V→List V→Hp→VK→Prop) (to:TE) (t:TA):TE:=fun σ H Q=>to σ H fun x H1=>tyV K T x H1∧t σ H1 fun xs H2=>r x xs H2 Q
variable {o e:Expr}{es:List Expr}{to:TE}{t:TA}{name:Str}{apos cpos:Pos}{T id:String}{r:V→List V→Hp→VK→Prop}
theorem pe_bm (pa:PlainAttrs T) (slot:Slot T name id) (hty:typeOf (.builtin id)=pure (.type "method_descriptor")) (hm:MtR X id r) (ho:PE X o to) (ha:PA X (e :: es) t)
    (hbase:attributeBase o name X.env (eval o X.env)=eval o X.env:=by rfl)
    (hfew:((backTo cpos (starEach (e :: es) X.env)).all (fun x=>!x.1) && (backToKw cpos (keywordEach [] X.env)).all (fun x=>x.1.isSome)
      && decide ((e :: es).length + ([]:List Keyword).length + (if ([]:List Keyword).isEmpty then 0 else 1) < 30))=true:=by rfl)
    (hline:(apos.endLine == cpos.line)=true:=by rfl) (hs:starEach (e :: es) X.env=(false,eval e X.env) :: starEach es X.env:=by rfl) (hplain:(backTo cpos (starEach es X.env)).any (·.1)=false:=by rfl) :
    PE X (.Call (.Attribute o name apos) (e :: es) [] cpos) (tBM X.K T r to t):=by
  intro pins s σ H Q I h
  refine wpAny_Call_method_late hbase hfew hline rfl (thn (ho pins s σ H _ I h) fun v s1 zz=>?_)
  obtain ⟨x,H1,I1,r1,ty,q1⟩:=zz
  obtain ⟨h1,h2⟩:=tyV_is I1 r1 ty
  refine ⟨T,id,pa,slot,hty,h1,h2,?_⟩
  have hA:=ha cpos pins s1 σ H1 _ I1 q1
  rw [hs] at hA ⊢
  refine Calls.callWith_builtin (by show (false || (backTo cpos (starEach es X.env)).any (·.1))=false;rw [hplain] <;> rfl) (Calls.evalArgs_plain ?_)
  exact thn hA fun us s2 ⟨vs,H2,I2,r2,q2⟩=>hm pins s2 σ H2 x vs v us Q I2 r1 r2 q2
/- xs.append(e), list.index on a module's tuple .. are MtR facts of 06m -/
end
end L2

namespace L2
open PySem PySem.Spec PyProof.Rows

noncomputable def MtM (X:Cx) (id:String) (r:V→List V→Hp→VK→Prop):Prop:=
  ∀ (pins:List (Addr × Obj)) (s:Shared) (σ:St) (H:Hp) (x:V) (xs:List V) (v:Value) (us:List Value) (Q:VK),Inv X pins σ H s→RelV x v→Vals xs us→r x xs H Q →
    wpAny (model X.prog X.w) X.A (call (.builtin id) (v :: us)) (EP X pins σ Q) X.xe s

/-! ### lists of values -/
theorem Vals.one:∀ {x:V}{us:List Value},Vals [x] us→∃ u,us = [u]∧RelV x u
  | _,_,.cons r .nil=>⟨_,rfl,r⟩
theorem Vals.eraseIdx:∀ {xs:List V}{us:List Value} (i:Nat),Vals xs us→Vals (xs.eraseIdx i) (us.eraseIdx i)
  | _,_,_,.nil=>.nil
  | _,_,0,.cons _ t=>t
  | _,_,i + 1,.cons r t=>.cons r (Vals.eraseIdx i t)
theorem len_erase {α:Type}:∀ (l:List α) (i:Nat),(l.eraseIdx i).length≤l.length
  | [],_=>Nat.le_refl _
  | _ :: _,0=>Nat.le_succ _
  | _ :: r,i + 1=>Nat.succ_le_succ (len_erase r i)
section
variable {X:Cx}{pins:List (Addr × Obj)}{σ:St}{H:Hp}{s:Shared}{l b:Addr}{xs ys zs:List V}

/-! ### the two steps: a tracked list is rewritten, a new list is laid -/
theorem Inv.lset {its its':List Value}{n:Nat}{f:Array Value→Array Value}{t':Nat} (I:Inv X pins σ H s) (hH:H l=some (.lst xs))
    (e:s.heap.get? l=some { cls:=.type "list",data:=.seq its.toArray n }) (hf:f its.toArray=its'.toArray) (hv:Vals ys its') (hz:ys.length≤sizeLine) :
    Inv X pins σ (upd H l (.lst ys)) { s with heap:=s.heap.update l (Obj.mapSeq f),toks:=t' }:=by
  have q:=PySem.IsL.update e f
  rw [hf] at q
  refine I.write (x:=l) (e:=l) (by rw [hH];exact trivial) (.inl rfl) (fun b' u hb hu=>(Heap.get?_update_other s.heap (Obj.mapSeq f) (Ne.symm hb)).trans hu) ⟨_,q⟩ ?_
  exact ⟨hz,its',_,hv,q⟩
theorem Inv.lnew {its:List Value}{t':Nat} (I:Inv X pins σ H s) (hv:Vals ys its) (hz:ys.length≤sizeLine) :
    Inv X pins σ (upd H s.heap.objs.size (.lst ys)) { s with heap:=s.heap.push { cls:=.type "list",data:=.seq its.toArray },toks:=t' }:=
  I.laid (fun _ _ q=>Heap.get?_push_of_some _ q) (Nat.le_refl _) ⟨hz,its,0,hv,Heap.get?_push_size _ rfl⟩
theorem Inv.fresh (I:Inv X pins σ H s):H s.heap.objs.size=none:=I.hok.fresh (Nat.le_refl _)
theorem Inv.lstM (I:Inv X pins σ H s) (hH:H l=some (.lst xs)):xs.length≤sizeLine∧∃ (its:List Value) (n:Nat),Vals xs its∧xs.length=its.length∧s.heap.get? l=some { cls:=.type "list",data:=.seq its.toArray n }:=by
  obtain ⟨z,its,n,r,e⟩:=I.hok l _ hH
  exact ⟨z,its,n,r,r.length,e⟩

theorem notLongL {n:Nat} (h:n≤sizeLine):Builtin.List.listTooLong n=false:=by
  unfold Builtin.List.listTooLong
  exact decide_eq_false (by omega)
end

section
variable {X:Cx}

/-! ### methods -/
noncomputable def rAppend:V→List V→Hp→VK→Prop:=fun x vs H Q=>∃ l xs y,x = .ref l∧vs = [y]∧H l=some (.lst xs)∧xs.length < sizeLine∧Q .non (upd H l (.lst (xs ++ [y])))
theorem mt_append:MtM X "list.append" rAppend:=by
  intro pins s σ H x vs v us Q I rx rv h
  obtain ⟨l,xs,y,rfl,rfl,hH,hz,q⟩:=h
  cases rx
  obtain ⟨u,rfl,ru⟩:=rv.one
  obtain ⟨z,its,n,r,hl,e⟩:=I.lstM hH
  refine call_meets F.slot_list_append ⟨_,e,rfl⟩ F.entry_list_append (F.args_list_append_2 _ _) (PySem.list_append l its.toArray n u (by rw [List.size_toArray];omega)) ⟨e,?_⟩
  refine ⟨.non,_,I.lset (its':=its ++ [u]) hH e (by simp) (r.append (.cons ru .nil)) ?_,rfl,q⟩
  rw [List.length_append,List.length_singleton]
  omega

noncomputable def rPopAt:V→List V→Hp→VK→Prop:=fun x vs H Q=>∃ l xs i k y,x = .ref l∧vs = [.int i]∧H l=some (.lst xs)∧-(2 ^ 63)≤i∧i < 2 ^ 63∧seqIndex? i xs.length=some k∧xs[k]?=some y∧Q y (upd H l (.lst (xs.eraseIdx k)))
theorem mt_popAt:MtM X "list.pop" rPopAt:=by
  intro pins s σ H x vs v us Q I rx rv h
  obtain ⟨l,xs,i,k,y,rfl,rfl,hH,h1,h2,hk,hy,q⟩:=h
  cases rx
  obtain ⟨u,rfl,ru⟩:=rv.one
  obtain ⟨t,rfl⟩:=ru
  obtain ⟨z,its,n,r,hl,e⟩:=I.lstM hH
  obtain ⟨w,hw,rw'⟩:=r.get hy
  refine call_meets F.slot_list_pop ⟨_,e,rfl⟩ F.entry_list_pop (F.args_list_pop_2 _ _)
    (MeetsSeq.list_pop_at l its.toArray n i t k w (fitsIndex_both h1 h2) (by rw [List.size_toArray,← hl];exact hk) (by rw [← Array.getElem?_toList];exact hw) (by rw [List.size_toArray];omega)) ⟨e,?_⟩
  refine ⟨y,_,I.lset (its':=its.eraseIdx k) hH e ?_ (r.eraseIdx k) ?_,rw',q⟩
  · show its.toArray.eraseIdxIfInBounds k=(its.eraseIdx k).toArray
    rw [List.eraseIdxIfInBounds_toArray]
  · have:=len_erase xs k
    omega

/-! ### list + list, list += list, list * int -/
noncomputable def rCat:R2:=fun x y H Q=>∃ l b xs zs,x = .ref l∧y = .ref b∧H l=some (.lst xs)∧H b=some (.lst zs)∧xs.length + zs.length≤sizeLine∧∀ p,H p=none→Q (.ref p) (upd H p (.lst (xs ++ zs)))
theorem op_cat:OpR X (binaryOp .Add) rCat:=by
  intro pins s σ H x y v u Q I rx ry h
  obtain ⟨l,b,xs,zs,rfl,rfl,hH,hB,hz,q⟩:=h
  cases rx
  cases ry
  obtain ⟨z,its,n,r,hl,e⟩:=I.lstM hH
  obtain ⟨z2,its2,n2,r2,hl2,e2⟩:=I.lstM hB
  refine PySem.P.add_list e e2 ?_ (by rw [List.size_toArray,List.size_toArray];omega)
  have ea:its.toArray ++ its2.toArray=(its ++ its2).toArray:=by simp
  rw [ea]
  exact ⟨.ref _,_,I.lnew (t':=s.toks) (r.append r2) (by rw [List.length_append];omega),rfl,q _ I.fresh⟩
/-! ### del xs[i] -/
end

/-! ### xs[a:b] = ys -/
section
variable {prog:Program}{w:World}{A:Around}{E:Value→Shared→Prop}{s:Shared}
theorem bounds_run {a c n:Nat} (hac:a≤c) (hc:c≤n):sliceBounds (some (a:Int)) (some (c:Int)) none n=((a:Int),(c:Int),1):=by
  simp only [sliceBounds,Option.getD_none]
  have h1:¬ ((a:Int) < 0):=by omega
  have h2:¬ ((c:Int) < 0):=by omega
  simp only [h1,h2,if_false,show (1:Int) > 0 by decide,if_true]
  congr 1
  · omega
  · congr 1;omega
set_option maxRecDepth 100000 in
theorem setItem_slice {l b sl:Addr}{items new:Array Value}{n n2:Nat}{vl vu:Value}{a c:Nat}{Q:Unit→Shared→Prop}
    (e:s.heap.get? l=some { cls:=.type "list",data:=.seq items n }) (e2:s.heap.get? b=some { cls:=.type "list",data:=.seq new n2 }) (hne:l ≠ b)
    (hs:s.heap.IsSliceOf sl vl vu .none) (pl:IsPart vl (some (a:Int))) (pu:IsPart vu (some (c:Int))) (hac:a≤c) (hc:c≤items.size)
    (hsz:items.size + new.size≤sizeLine) (h:Q () { s with heap:=s.heap.update l (Obj.mapSeq fun xs=>xs.extract 0 a ++ new ++ xs.extract c xs.size) }) :
    wpAny (model prog w) A (setItem (.ref l) (.ref sl) (.ref b)) Q E s:=by
  have hl:s.heap.IsList l items:=PySem.IsL.isList e
  have hb:s.heap.IsList b new:=PySem.IsL.isList e2
  obtain ⟨os,hos,hcs,hds⟩:=id hs
  have hTs:s.TypeIs (.ref sl) "slice":=⟨os,hos,hcs⟩
  have hstep:¬ ((rawPart none == rawInt 0)=true):=Bool.false_ne_true
  have hsame:Builtin.List.listSameRef (.ref l) (.ref b)=false:=by
    unfold Builtin.List.listSameRef
    exact beq_eq_false_iff_ne.mpr hne
  have hmax:(max (a:Int) (c:Int)).toNat=c:=by omega
  have hz':((fun xs:Array Value=>xs.extract 0 a ++ new ++ xs.extract c xs.size) items).size≤sizeLine + 1:=by
    simp only [Array.size_append,Array.size_extract]
    omega
  unfold setItem
  try with_reducible refine wpAny_holding ?_
  first | refine wpAny_bind (wpAny_pure ?_) | skip
  refine wpAny_bind (wpAny_sequenceKey hl.typeIs (by decide) ?_)
  refine wpAny_bind (wpAny_callSpecial?_slot (name:=Str.ofString "__setitem__") hl.typeIs slot_list_setitem
    (wpAny_call_entry slot_list_setitem hl.typeIs entry_list_setitem ?_ (args_list_setitem _ _ _)))
  show wpAny _ _ (Builtin.List.listSubscript? (.ref sl) >>= _) _ _ s
  refine wpAny_bind ?_
  unfold Builtin.List.listSubscript?
  refine wpAny_bind (wpAny_specialOf hTs slice_no_index ?_)
  simp only [Option.isNone_none,if_true]
  refine wpAny_pure ?_
  show wpAny _ _ (typeOf (.ref sl) >>= _) _ _ s
  refine wpAny_bind (wpAny_typeOf hTs ?_)
  first
    | rw [if_neg (by decide)]
    | refine PySem.W.KFB.if_not (by decide) ?_
  rw [listSliceParts_eq]
  refine wpAny_bind (wpAny_bind (wpAny_field hos hds (x:=.none) rfl (wpAny_bind (wpAny_listPart .none ?_))))
  rw [if_neg hstep]
  refine wpAny_bind (wpAny_field hos hds (x:=vl) rfl (wpAny_bind (wpAny_listPart pl ?_)))
  refine wpAny_bind (wpAny_field hos hds (x:=vu) rfl (wpAny_bind (wpAny_listPart pu (wpAny_pure ?_))))
  first
    | simp only [hsame,Bool.false_eq_true,if_false]
    | refine PySem.W.KFB.if_not hsame ?_
    | (dsimp only
       rw [if_neg (by rw [hsame];exact Bool.false_ne_true)])
  refine wpAny_bind (m:=Builtin.List.listAllItems (.ref b) "must assign iterable to extended slice") ?_
  unfold Builtin.List.listAllItems
  refine wpAny_bind (wpAny_typeOf hb.typeIs ?_)
  first
    | refine PySem.W.KFB.if_so (by decide) ?_
    | rw [if_pos (by decide)]
    | simp only [beq_self_eq_true,Bool.true_or,if_true]
  unfold Builtin.List.listItems
  refine wpAny_bind (wpAny_seqItems e2 rfl (wpAny_pure ?_))
  refine wpAny_bind (wpAny_bind (wpAny_seqItems e rfl (wpAny_pure ?_)))
  refine wpAny_bind (wpAny_of_eq ((sliceIndices_raw (some (a:Int)) (some (c:Int)) none items.size (by simp)).trans (congrArg (pure:Int × Int × Int→Sem (Int × Int × Int)) (bounds_run hac hc))) ?_)
  show wpAny _ _ (if ((1:Int) == 1)=true then _ else _) _ _ s
  rw [if_pos (by decide)]
  refine wpAny_bind (wpAny_rule ?_)
  first
    | simp only [notLongL hsz,Bool.false_eq_true,if_false]
    | refine PySem.W.KFB.if_not (notLongL hsz) ?_
  first | refine wpAny_bind (wpAny_pure ?_) | skip
  show wpAny _ _ (updateSeq l (fun xs=>xs.extract 0 ((a:Int)).toNat ++ new ++ xs.extract (max (a:Int) (c:Int)).toNat xs.size) >>= _) _ _ s
  rw [hmax,Int.toNat_natCast]
  refine wpAny_bind (wpAny_updateSeq (hz:=Nat.le_trans (Nat.le_add_right _ _) hsz) (_hz':=hz') e rfl ?_)
  refine wpAny_bind (wpAny_letGo ?_)
  first
    | exact wpAny_bind (wpAny_pure (wpAny_pure ⟨.none,rfl,wpAny_pure h⟩))
    | exact wpAny_pure ⟨.none,rfl,wpAny_pure h⟩
end

section
variable {X:Cx}
end
end L2

namespace L2
open PySem PySem.Spec PyProof.Rows

/-! ### lists of pairs as tables -/
section
variable {κ:Type}[DecidableEq κ]
noncomputable def valV (kvs:List (κ × V)) (k:κ):Option V:=(kvs.find? fun kv=>decide (kv.1=k)).map (·.2)
noncomputable def putK (kvs:List (κ × V)) (k:κ) (v:V):List (κ × V):=
  if (kvs.any fun kv=>decide (kv.1=k))=true then kvs.map (fun kv=>if kv.1=k then (kv.1,v) else kv) else kvs ++ [(k,v)]
theorem valV_pos {p:κ × V}{r:List (κ × V)}{k:κ} (e:p.1=k):valV (p :: r) k=some p.2:=by simp [valV,List.find?_cons,e]
theorem valV_neg {p:κ × V}{r:List (κ × V)}{k:κ} (e:¬ p.1=k):valV (p :: r) k=valV r k:=by simp [valV,List.find?_cons,e]
theorem valV_any (k:κ):∀ kvs:List (κ × V),(kvs.any fun kv=>decide (kv.1=k))=(valV kvs k).isSome
  | []=>rfl
  | p :: r=>by
    rw [List.any_cons]
    by_cases e:p.1=k
    · simp only [valV_pos e,decide_eq_true e,Bool.true_or,Option.isSome_some]
    · rw [valV_neg e,decide_eq_false e,Bool.false_or];exact valV_any k r
theorem length_putK (kvs:List (κ × V)) (k:κ) (v:V):(putK kvs k v).length≤kvs.length + 1:=by
  unfold putK
  split
  · rw [List.length_map];omega
  · rw [List.length_append,List.length_cons,List.length_nil];omega
theorem RelO.isSome_eq {o:Option V}{u:Option Value} (r:RelO o u):o.isSome=u.isSome:=by
  cases o with
  | none=>cases u with
    | none=>rfl
    | some _=>exact (show False from r).elim
  | some _=>cases u with
    | none=>exact (show False from r).elim
    | some _=>rfl
theorem KV.val {kvs:List (κ × V)}{vs:List (κ × Value)} (r:KV kvs vs) (k:κ):RelO (valV kvs k) (valueAt vs k):=by
  unfold KV at r
  induction r with
  | nil=>exact True.intro
  | @cons p q ps qs h t ih =>
    obtain ⟨h1,h2⟩:=h
    by_cases e:p.1=k
    · have e':q.1=k:=h1.symm.trans e
      have b:valueAt (q :: qs) k=some q.2:=by simp [valueAt,List.find?_cons,e']
      rw [valV_pos e,b];exact h2
    · have e':¬ q.1=k:=fun z=>e (h1.trans z)
      have b:valueAt (q :: qs) k=valueAt qs k:=by simp [valueAt,List.find?_cons,e']
      rw [valV_neg e,b];exact ih
theorem KV.any {kvs:List (κ × V)}{vs:List (κ × Value)} (r:KV kvs vs) (k:κ):(kvs.any fun kv=>decide (kv.1=k))=vs.any fun kv=>decide (kv.1=k):=by
  unfold KV at r
  induction r with
  | nil=>rfl
  | cons h t ih=>rw [List.any_cons,List.any_cons,ih,h.1]
theorem KV.repl {kvs:List (κ × V)}{vs:List (κ × Value)} (r:KV kvs vs) (k:κ) {y:V}{u:Value} (ry:RelV y u) :
    KV (kvs.map fun kv=>if kv.1=k then (kv.1,y) else kv) (vs.map fun kv=>if kv.1=k then (kv.1,u) else kv):=by
  unfold KV at r ⊢
  induction r with
  | nil=>exact .nil
  | @cons p q ps qs h t ih =>
    rw [List.map_cons,List.map_cons]
    refine .cons ?_ ih
    obtain ⟨h1,h2⟩:=h
    by_cases e:p.1=k
    · rw [if_pos e,if_pos (h1.symm.trans e)];exact ⟨h1,ry⟩
    · rw [if_neg e,if_neg (fun z=>e (h1.trans z))];exact ⟨h1,h2⟩
theorem KV.put {kvs:List (κ × V)}{vs:List (κ × Value)} (r:KV kvs vs) (k:κ) {y:V}{u:Value} (ry:RelV y u):KV (putK kvs k y) (stored vs k u):=by
  unfold putK stored
  rw [r.any k]
  by_cases e:(vs.any fun kv=>decide (kv.1=k))=true
  · rw [if_pos e,if_pos e];exact r.repl k ry
  · rw [if_neg e,if_neg e];exact Paired.snoc r ⟨rfl,ry⟩
theorem KV.length {kvs:List (κ × V)}{vs:List (κ × Value)} (r:KV kvs vs):kvs.length=vs.length:=Paired.length r
end


/-! ### a tracked dict, its keys ints and texts or tuples of these -/
theorem kV_is {P:Program}{w:World}{k:Key}{u:Value} (r:RelV (kV k) u):(mixKind P w).is k u=true:=by
  cases k with
  | inl i=>obtain ⟨t,e⟩:=(show ∃ t,u=Value.int i t from r);subst e;exact mixKind_int P w i t
  | inr x=>obtain ⟨t,e⟩:=(show ∃ t,u=Value.str x t from r);subst e;exact mixKind_str P w x t
theorem items_are {P:Program}{w:World}:∀ {ks:List Key}{us:List Value},Vals (ks.map kV) us→ItemsAre (mixKind P w) ks us
  | [],_,r=>by rw [List.map_nil] at r;cases r;exact .nil
  | k :: ks,_,r=>by
    rw [List.map_cons] at r
    cases r with
    | cons h t=>exact .cons (kV_is h) (items_are t)

noncomputable abbrev KT (H:Hp):List (List Key × V)→List (List Key × Addr × Value)→Prop:=Paired fun p q=>p.1=q.1∧H q.2.1=some (.tup (p.1.map kV))∧RelV p.2 q.2.2
theorem KT.val {H:Hp}{kvs:List (List Key × V)}{xs:List (List Key × Addr × Value)} (r:KT H kvs xs) (k:List Key):RelO (valV kvs k) ((atKey xs k).map (·.2)):=by
  induction r with
  | nil=>exact True.intro
  | @cons p q ps qs h t ih =>
    obtain ⟨h1,_,h2⟩:=h
    by_cases e:p.1=k
    · have e':q.1=k:=h1.symm.trans e
      have b:atKey (q :: qs) k=some q.2:=by simp [atKey,List.find?_cons,e']
      rw [valV_pos e,b];exact h2
    · have e':¬ q.1=k:=fun z=>e (h1.trans z)
      have b:atKey (q :: qs) k=atKey qs k:=by simp [atKey,List.find?_cons,e']
      rw [valV_neg e,b];exact ih
theorem KT.repl {H:Hp}{kvs:List (List Key × V)}{xs:List (List Key × Addr × Value)} (r:KT H kvs xs) (k:List Key) {y:V}{u:Value} (ry:RelV y u) :
    KT H (kvs.map fun kv=>if kv.1=k then (kv.1,y) else kv) (xs.map (putAt k u)):=by
  induction r with
  | nil=>exact .nil
  | @cons p q ps qs h t ih =>
    rw [List.map_cons,List.map_cons]
    refine .cons ?_ ih
    obtain ⟨h1,h2,h3⟩:=h
    unfold putAt
    by_cases e:p.1=k
    · rw [if_pos e,if_pos (h1.symm.trans e)];exact ⟨h1,h2,ry⟩
    · rw [if_neg e,if_neg (fun z=>e (h1.trans z))];exact ⟨h1,h2,h3⟩
theorem KT.put {H:Hp}{kvs:List (List Key × V)}{xs:List (List Key × Addr × Value)} (r:KT H kvs xs) (k:List Key) {b:Addr}{y:V}{u:Value} (hb:H b=some (.tup (k.map kV))) (ry:RelV y u) :
    KT H (putK kvs k y) (storedH xs k b u):=by
  have e:(kvs.any fun kv=>decide (kv.1=k))=(atKey xs k).isSome:=by
    rw [valV_any,(r.val k).isSome_eq,Option.isSome_map]
  unfold putK storedH
  rw [e]
  by_cases q:(atKey xs k).isSome=true
  · rw [if_pos q,if_pos q];exact r.repl k ry
  · rw [if_neg q,if_neg q];exact Paired.snoc r ⟨rfl,hb,ry⟩
theorem KT.keeps {H H':Hp}{kvs:List (List Key × V)}{xs:List (List Key × Addr × Value)} (r:KT H kvs xs) (ht:∀ b ys,H b=some (.tup ys)→H' b=some (.tup ys)):KT H' kvs xs:=
  Paired.mapP r fun _ _ z=>⟨z.1,ht _ _ z.2.1,z.2.2⟩

section
variable {P:Program}{w:World}{H:Hp}{h:Heap}{a:Addr}
theorem rd_of {u:HO} (ok:HOk P w H h) (e:Rd H a u):ObjOk P w H h a u:=e.ok ok
theorem dk_rd {kvs:List (Key × V)} (ok:HOk P w H h) (e:Rd H a (.dK kvs)):kvs.length≤sizeLine∧(a == sysModules)=false∧∃ vs,KV kvs vs∧h.DictOf (mixKind P w) a vs:=
  show ObjOk P w H h a (.dK kvs) from rd_of ok e
theorem dk_of {kvs:List (Key × V)} (ok:HOk P w H h) (e:H a=some (.dK kvs)):kvs.length≤sizeLine∧(a == sysModules)=false∧∃ vs,KV kvs vs∧h.DictOf (mixKind P w) a vs:=dk_rd ok (.inl e)
theorem key_of {ks:List Key} (ok:HOk P w H h) (e:H a=some (.tup (ks.map kV))):(tupleKind (mixKind P w)).is h ks a:=by
  obtain ⟨_,its,r,o,h1,h2,n,h3⟩:=(show ObjOk P w H h a (.tup (ks.map kV)) from ok a _ e)
  exact ⟨o,its.toArray,n,h1,h2,h3,by simpa using items_are r⟩
theorem dt_rd {kvs:List (List Key × V)} (ok:HOk P w H h) (e:Rd H a (.dT kvs)):kvs.length≤sizeLine∧(a == sysModules)=false ∧
    ∃ xs,KT H kvs xs∧h.DictOfH (tupleKind (mixKind P w)) a xs:=by
  obtain ⟨z,y,xs,r,o,es,ep,h1,h2,h3,h4,h5⟩:=(show ObjOk P w H h a (.dT kvs) from rd_of ok e)
  refine ⟨z,y,xs,r,o,es,ep,h1,h2,h3,h4,fun x hx=>?_,h5⟩
  have all:∀ {l:List (List Key × V)}{m:List (List Key × Addr × Value)},KT H l m→∀ x ∈ m,(tupleKind (mixKind P w)).is h x.1 x.2.1:=by
    intro l m q
    induction q with
    | nil=>intro x hx;exact nomatch hx
    | @cons p q ps qs hq t ih =>
      intro x hx
      rcases List.mem_cons.mp hx with e | hx
      · subst e
        exact key_of ok (by rw [← hq.1];exact hq.2.1)
      · exact ih x hx
  exact all r x hx
theorem dt_of {kvs:List (List Key × V)} (ok:HOk P w H h) (e:H a=some (.dT kvs)):kvs.length≤sizeLine∧(a == sysModules)=false ∧
    ∃ xs,KT H kvs xs∧h.DictOfH (tupleKind (mixKind P w)) a xs:=dt_rd ok (.inl e)
end

noncomputable def DGet (H:Hp) (a:Addr) (y:V) (r:Option V):Prop:=
  (∃ kvs k,Rd H a (.dK kvs)∧y=kV k∧r=valV kvs k) ∨ ∃ kvs k b,Rd H a (.dT kvs)∧y = .ref b∧H b=some (.tup (k.map kV))∧r=valV kvs k
noncomputable def DPut (H:Hp) (a:Addr) (y v:V) (H':Hp):Prop:=
  (∃ kvs k,H a=some (.dK kvs)∧y=kV k∧kvs.length < sizeLine∧H'=upd H a (.dK (putK kvs k v))) ∨
  ∃ kvs k b,H a=some (.dT kvs)∧y = .ref b∧H b=some (.tup (k.map kV))∧kvs.length < sizeLine∧H'=upd H a (.dT (putK kvs k v))
theorem DGet.k {H:Hp}{a:Addr}{kvs:List (Key × V)}{k:Key} (e:H a=some (.dK kvs)):DGet H a (kV k) (valV kvs k):=.inl ⟨kvs,k,.inl e,rfl,rfl⟩
theorem DPut.k {H:Hp}{a:Addr}{kvs:List (Key × V)}{k:Key}{v:V} (e:H a=some (.dK kvs)) (hl:kvs.length < sizeLine):DPut H a (kV k) v (upd H a (.dK (putK kvs k v))):=.inl ⟨kvs,k,e,rfl,hl,rfl⟩
section
variable {X:Cx}{pins:List (Addr × Obj)}{σ:St}{H:Hp}{s:Shared}{a:Addr}{y v:V}{u r:Value}{o:Option V}{A:Around}{E:Value→Shared→Prop}

theorem Inv.big (I:Inv X pins σ H s):sysModules < s.heap.objs.size:=by
  have h:mainGlobals < s.heap.objs.size:=(I.mod.glob.keeps I.bk).lt
  exact Nat.lt_trans (by decide) h

theorem d_getItem {Q:Value→Shared→Prop} (hu:A.units + 1 < cLine) (I:Inv X pins σ H s) (g:DGet H a y (some v)) (ry:RelV y u) (h:∀ w' s',Inv X pins σ H s'→RelV v w'→Q w' s') :
    wpAny (model X.prog X.w) A (getItem (.ref a) u) Q E s:=by
  rcases g with ⟨kvs,k,e,ey,l⟩ | ⟨kvs,k,b,e,ey,eb,l⟩
  · subst ey
    obtain ⟨z,hd,vs,rel,dd⟩:=dk_rd I.hok e
    obtain ⟨w',hw,rw'⟩:=RelO.some_of (v:=v) (o:=valueAt vs k) (by rw [l];exact rel.val k)
    exact wpAny_getItem_of (kV_is ry) dd.mapOf hw (h w' _ (I.tok _) rw')
  · subst ey
    cases (show u=Value.ref b from ry)
    obtain ⟨z,hd,xs,rel,dd⟩:=dt_rd I.hok e
    obtain ⟨w',hw,rw'⟩:=RelO.some_of (v:=v) (o:=(atKey xs k).map (·.2)) (by rw [l];exact rel.val k)
    obtain ⟨p,hp,hp2⟩:=Option.map_eq_some_iff.mp hw
    refine wpAny_getItem_heap (tupleKind_room_in1 hu) (key_of I.hok eb) dd hp ?_
    rw [hp2]
    exact h w' _ (I.tok _) rw'
theorem d_write {h':Heap}{t':Nat}{ob:HO} (I:Inv X pins σ H s) (mu:Mut (H a)) (hs:Heap.SameBut a s.heap h') (he:∃ q,h'.get? a=some q) (new:ObjOk X.prog X.w (upd H a ob) h' a ob) :
    Inv X pins σ (upd H a ob) { s with heap:=h',toks:=t' }:=
  I.write (x:=a) (e:=a) mu (.inl rfl) (fun b q hb z=>(hs.2 b hb).trans z) he new
theorem dk_new {P:Program}{w:World}{H':Hp}{h':Heap}{kvs:List (Key × V)}{vs:List (Key × Value)} (z:kvs.length≤sizeLine) (hd:(a == sysModules)=false) (rel:KV kvs vs) (dd:h'.DictOf (mixKind P w) a vs) :
    ObjOk P w H' h' a (.dK kvs):=⟨z,hd,vs,rel,dd⟩
theorem d_setItem {H':Hp}{Q:Unit→Shared→Prop} (hu:A.units + 1 < cLine) (I:Inv X pins σ H s) (g:DPut H a y v H') (ry:RelV y u) (rv:RelV v r) (h:∀ s',Inv X pins σ H' s'→Q () s') :
    wpAny (model X.prog X.w) A (setItem (.ref a) u r) Q E s:=by
  rcases g with ⟨kvs,k,e,ey,l,eH⟩ | ⟨kvs,k,b,e,ey,eb,l,eH⟩
  · subst ey eH
    obtain ⟨z,hd,vs,rel,dd⟩:=dk_of I.hok e
    have hz:vs.length≤sizeLine:=by rw [← rel.length];exact z
    have hl:(putK kvs k v).length≤sizeLine:=by have:=length_putK kvs k v;omega
    refine wpAny_setItem_pairs (hsz:=hz) (kV_is ry) dd fun h' dd' hs=>h _ ?_
    have he:∃ q,h'.get? a=some q:=let ⟨q,_,_,hq,_⟩:=dd';⟨q,hq⟩
    exact d_write I (by rw [e];exact True.intro) hs he (dk_new hl hd (rel.put k rv) dd')
  · subst ey eH
    cases (show u=Value.ref b from ry)
    obtain ⟨z,hd,xs,rel,dd⟩:=dt_of I.hok e
    have hz:xs.length≤sizeLine:=by rw [← Paired.length rel];exact z
    have hl:(putK kvs k v).length≤sizeLine:=by have:=length_putK kvs k v;omega
    refine wpAny_setItem_heap (hsz:=hz) (tupleKind_room_in1 hu) (key_of I.hok eb) dd fun h' dd' hs=>h _ ?_
    obtain ⟨q,es,ep,hq,h2,h3,h4,_,h5⟩:=dd'
    refine d_write I (by rw [e];exact True.intro) hs ⟨q,hq⟩ ⟨hl,hd,_,(rel.put k eb rv).keeps fun c ys ec=>?_,q,es,ep,hq,h2,h3,h4,h5⟩
    rw [upd_ne (ne_of ec e (fun z=>nomatch z))]
    exact ec
end

section
variable {X:Cx}{pins:List (Addr × Obj)}{σ:St}{H:Hp}{s:Shared}{a:Addr}{kvs:List (Key × V)}{k:Key}{u:Value}{A:Around}{E:Value→Shared→Prop}
end


/-! ### readings and rules -/
noncomputable def NoSl (i:Expr):Prop:=∀ ov iv,subscripted i false ov iv=operate [ov,iv] (getItem ov iv)
theorem subD_of {prog:Program}{w:World}{A:Around}{E:Value→Shared→Prop}{s:Shared}{env:Env}{value slice:Expr}{pos:Pos}{T id:String}{Q:Value→Shared→Prop}
    (hl:typeLookup (.type T) "__getitem__"=pure (some (.builtin id))) (hs:NoSl slice)
    (h:wpAny (model prog w) A (eval value env) (fun o s₁=>wpAny (model prog w) A (eval slice env) (fun i s₂=>s₂.TypeIs o T∧wpAny (model prog w) A (getItem o i) Q E s₂) E s₁) E s) :
    wpAny (model prog w) A (eval (.Subscript value slice pos) env) Q E s:=by
  refine Subscript_ (wpAny_mono h (fun o s₁ h₁=>wpAny_mono h₁ (fun i s₂ h₂=>?_) fun _ _ x=>x) fun _ _ x=>x)
  obtain ⟨hT,h₂⟩:=h₂
  unfold subscriptTail
  refine wpAny_bind ?_
  rw [getitemInPython_of_ne hT.not_modules]
  refine wpAny_bind (wpAny_specialOf hT hl ?_)
  have fin:wpAny (model prog w) A (subscripted slice false o i) (fun r s₃=>wpAny (model prog w) A (letTemporaryGo value o r >>= fun _=>pure r) Q E s₃) E s₂:=by
    rw [hs o i]
    exact wpAny_operating (wpAny_mono h₂ (fun r s₃ h₃=>wpAny_bind (wpAny_letTemporaryGo (wpAny_pure h₃))) fun _ _ x=>x)
  first
    | exact wpAny_pure (wpAny_bind fin)
    | exact wpAny_bind (wpAny_pure (wpAny_bind fin))
    | exact wpAny_bind fin

theorem dict_typeIs {X:Cx}{pins:List (Addr × Obj)}{σ:St}{H:Hp}{s:Shared}{a:Addr}{y:V}{o:Option V} (I:Inv X pins σ H s) (g:DGet H a y o):s.TypeIs (.ref a) "dict":=by
  rcases g with ⟨kvs,k,e,_,_⟩ | ⟨kvs,k,b,e,_,_,_⟩
  · obtain ⟨_,_,vs,_,dd⟩:=dk_rd I.hok e
    exact dd.typeIs
  · obtain ⟨_,_,xs,_,dd⟩:=dt_rd I.hok e
    exact dd.typeIs
noncomputable def tDGet (td ty:TE):TE:=fun σ H Q=>td σ H fun x H1=>ty σ H1 fun y H2=>∃ a v,x = .ref a∧DGet H2 a y (some v)∧Q v H2
noncomputable def sDPut (td ty tv:TE):TS:=fun D σ H=>tv σ H fun v H1=>td σ H1 fun x H2=>ty σ H2 fun y H3=>∃ a H4,x = .ref a∧DPut H3 a y v H4∧D.nx σ H4
section
variable {X:Cx}{o i e value:Expr}{pos pos' tpos:Pos}{td ty tv:TE}
theorem pe_dget (hu:X.A.units + 1 < cLine) (ho:PE X o td) (hi:PE X i ty) (hs:NoSl i):PE X (.Subscript o i pos) (tDGet td ty):=by
  intro pins s σ H Q I h
  refine subD_of PySem.F.slot_dict_getitem.lookup hs (thn (ho pins s σ H _ I h) fun u s1 ⟨x,H1,I1,rx,q1⟩=>thn (hi pins s1 σ H1 _ I1 q1) fun iv s2 zz=>?_)
  obtain ⟨y,H2,I2,ry,a,v,ex,g,q2⟩:=zz
  subst ex
  obtain rfl:u=Value.ref a:=rx
  exact ⟨dict_typeIs I2 g,d_getItem hu I2 g ry fun w' s3 I3 rw'=>⟨v,H2,I3,rw',q2⟩⟩
theorem ps_dput (hu:X.A.units + 1 < cLine) (ho:PE X o td) (hi:PE X i ty) (hv:PE X value tv) (hs:swapsWith value (some (.Subscript o i pos')) pos.line X.env=pure false) :
    PS X (.Assign [.Subscript o i pos'] value pos) (sDPut td ty tv):=by
  intro pins s σ H D I h
  refine wpAny_Assign_Subscript (thn (hv pins s σ H _ I h) fun r s1 ⟨v,H1,I1,rv,q1⟩=>thn (ho pins s1 σ H1 _ I1 q1) fun u s2 ⟨x,H2,I2,rx,q2⟩=>thn (hi pins s2 σ H2 _ I2 q2) fun iv s3 zz=>?_) hs
  obtain ⟨y,H3,I3,ry,a,H4,ex,g,q3⟩:=zz
  subst ex
  obtain rfl:u=Value.ref a:=rx
  exact d_setItem hu I3 g ry rv fun s4 I4=>⟨σ,H4,I4,q3⟩
end


/-! ### displays -/
theorem dk_empty {P:Program}{w:World}{H:Hp} (h:Heap) (hb:sysModules < h.objs.size):ObjOk P w H (h.push { cls:=.type "dict",data:=.dict #[] }) h.objs.size (.dK []):=
  ⟨Nat.zero_le _,beq_eq_false_iff_ne.mpr (Ne.symm (Nat.ne_of_lt hb)),[],.nil,Heap.DictOf.new h⟩
section
variable {X:Cx}{pos:Pos}
end

noncomputable def tPairs:List (TE × TE)→St→Hp→(List (V × V)→Hp→Prop)→Prop
  | [],_,H,Q=>Q [] H
  | (tk,tv) :: r,σ,H,Q=>tk σ H fun x H1=>tv σ H1 fun y H2=>tPairs r σ H2 fun ps H3=>Q ((x,y) :: ps) H3
noncomputable abbrev VV:List (V × V)→List (Value × Value)→Prop:=Paired fun p q=>RelV p.1 q.1∧RelV p.2 q.2
noncomputable def PPs (X:Cx) (pos:Pos) (keys:List (Option Expr)) (values:List Expr) (trs:List (TE × TE)):Prop:=
  ∀ (pins:List (Addr × Obj)) (s:Shared) (σ:St) (H:Hp) (Q:List (V × V)→Hp→Prop),Inv X pins σ H s→tPairs trs σ H Q →
    wpAny (model X.prog X.w) X.A (evalPairs (pairTrees keys values X.env pos)) (fun vs s'=>∃ ps H',Inv X pins σ H' s'∧VV ps vs∧Q ps H') X.xe s
theorem pps_nil {X:Cx}{pos:Pos}:PPs X pos [] [] []:=fun pins s σ H Q I h=>pairTrees_nil_walk ⟨[],H,I,.nil,h⟩
theorem pps_cons {X:Cx}{pos:Pos}{k v:Expr}{ks:List (Option Expr)}{vs:List Expr}{tk tv:TE}{trs:List (TE × TE)} (hk:PE X k tk) (hv:PE X v tv) (hr:PPs X pos ks vs trs) :
    PPs X pos (some k :: ks) (v :: vs) ((tk,tv) :: trs):=fun pins s σ H Q I h =>
  pairTrees_cons_walk (thn (hk pins s σ H _ I h) fun u s1 ⟨x,H1,I1,rx,q1⟩=>thn (hv pins s1 σ H1 _ I1 q1) fun w2 s2 ⟨y,H2,I2,ry,q2⟩ =>
    thn (hr pins s2 σ H2 _ I2 q2) fun ws s3 ⟨ps,H3,I3,rel,q3⟩=>⟨(x,y) :: ps,H3,I3,.cons ⟨rx,ry⟩ rel,q3⟩)

noncomputable def mergeK (kvs more:List (Key × V)):List (Key × V):=more.foldl (fun acc kv=>putK acc kv.1 kv.2) kvs
theorem KV.merge:∀ {more:List (Key × V)}{rs:List (Key × Value)}{kvs:List (Key × V)}{vs:List (Key × Value)},KV more rs→KV kvs vs→KV (mergeK kvs more) (merged vs rs):=by
  intro more rs kvs vs r
  unfold KV at r
  induction r generalizing kvs vs with
  | nil=>intro q;exact q
  | @cons p q ps qs h t ih =>
    intro r0
    have e:KV (putK kvs p.1 p.2) (stored vs q.1 q.2):=by
      have:=r0.put p.1 h.2
      rw [← h.1];exact this
    exact ih e
theorem length_mergeK:∀ (more kvs:List (Key × V)),(mergeK kvs more).length≤kvs.length + more.length
  | [],kvs=>by show kvs.length≤kvs.length + 0;omega
  | p :: r,kvs=>by
    have h1:=length_mergeK r (putK kvs p.1 p.2)
    have h2:=length_putK kvs p.1 p.2
    show (mergeK (putK kvs p.1 p.2) r).length≤_
    rw [List.length_cons];omega
theorem carries_of {P:Program}{w:World}:∀ {kvs:List (Key × V)}{ws:List (Value × Value)},VV (kvs.map fun kv=>(kV kv.1,kv.2)) ws→∃ rs,Carries (mixKind P w) ws rs∧KV kvs rs
  | [],_,r=>by rw [List.map_nil] at r;cases r;exact ⟨[],True.intro,.nil⟩
  | p :: kvs,_,r=>by
    rw [List.map_cons] at r
    cases r with
    | @cons a b as bs h t =>
      obtain ⟨rs,c,q⟩:=carries_of (P:=P) (w:=w) t
      obtain ⟨b1,b2⟩:=b
      exact ⟨(p.1,b2) :: rs,⟨kV_is h.1,rfl,c⟩,.cons ⟨rfl,h.2⟩ q⟩
noncomputable def tDisp (trs:List (TE × TE)):TE:=fun σ H Q=>∀ p,H p=none→tPairs trs σ (upd H p (.dK [])) fun ps H2=>H2 p=some (.dK [])∧∃ kvs:List (Key × V),ps=kvs.map (fun kv=>(kV kv.1,kv.2))∧kvs.length≤15∧Q (.ref p) (upd H2 p (.dK (mergeK [] kvs)))
theorem pe_disp {X:Cx}{pos:Pos}{keys:List (Option Expr)}{values:List Expr}{trs:List (TE × TE)} (h:PPs X pos keys values trs) (hall:keys.all (·.isSome)=true) (hl:keys.length=values.length) (h0:keys ≠ [])
    (h15:keys.length≤15):PE X (.Dict keys values pos) (tDisp trs):=by
  intro pins s σ H Q I q
  have hn:=I.hok.fresh (Nat.le_refl s.heap.objs.size)
  have I1:=I.laid (a:=s.heap.objs.size) (o:=.dK []) (h':=s.heap.push { cls:=.type "dict",data:=.dict #[] }) (t':=s.toks) (fun _ _ q=>Heap.get?_push_of_some _ q) (Nat.le_refl _) (dk_empty s.heap I.big)
  refine wpAny_Dict_walk (knd:=mixKind X.prog X.w) hall hl h0 h15 (thn (h pins _ σ _ _ I1 (q _ hn)) fun ws s2 zz=>?_)
  obtain ⟨ps,H2,I2,rel,e,kvs,ep,lk,q2⟩:=zz
  subst ep
  obtain ⟨rs,c,rk⟩:=carries_of (P:=X.prog) (w:=X.w) rel
  obtain ⟨z,hd,vs0,r0,dd⟩:=dk_of I2.hok e
  cases r0
  refine ⟨rs,c,dd,fun h' dd' hs=>⟨.ref s.heap.objs.size,_,?_,rfl,q2⟩⟩
  have hz:(mergeK [] kvs).length≤sizeLine:=by
    have h1:=length_mergeK kvs []
    rw [List.length_nil] at h1
    rw [sizeLine_eq];omega
  have he:∃ q,h'.get? s.heap.objs.size=some q:=let ⟨q,_,_,hq,_⟩:=dd';⟨q,hq⟩
  exact d_write I2 (by rw [e];exact True.intro) hs he (dk_new hz hd (rk.merge .nil) dd')


/-! ### methods -/
structure M1 (X:Cx) (o:Expr) (m:Str) (apos:Pos) (e:Expr) (cpos:Pos):Prop where
  base:attributeBase o m X.env (eval o X.env)=eval o X.env
  few:((backTo cpos (starEach [e] X.env)).all (fun x=>!x.1) && (backToKw cpos (keywordEach [] X.env)).all (fun x=>x.1.isSome)
    && decide (([e]:List Expr).length + ([]:List Keyword).length + (if ([]:List Keyword).isEmpty then 0 else 1) < 30))=true
  line:(apos.endLine == cpos.line)=true
  trees:backTo cpos (starEach [e] X.env) = [(false,eval e X.env)]
structure M2 (X:Cx) (o:Expr) (m:Str) (apos:Pos) (e f:Expr) (cpos:Pos):Prop where
  base:attributeBase o m X.env (eval o X.env)=eval o X.env
  few:((backTo cpos (starEach [e,f] X.env)).all (fun x=>!x.1) && (backToKw cpos (keywordEach [] X.env)).all (fun x=>x.1.isSome)
    && decide (([e,f]:List Expr).length + ([]:List Keyword).length + (if ([]:List Keyword).isEmpty then 0 else 1) < 30))=true
  line:(apos.endLine == cpos.line)=true
  trees:backTo cpos (starEach [e,f] X.env) = [(false,eval e X.env),(false,eval f X.env)]

section
variable {X:Cx}{pins:List (Addr × Obj)}{σ:St}{H:Hp}{s:Shared}{a:Addr}{y d:V}{u r:Value}{o:Option V}{A:Around}{E:Value→Shared→Prop}
end

section
variable {X:Cx}{o e f:Expr}{apos cpos:Pos}{td ty tx:TE}
end

/-! ### dict(d): a copy -/
section
variable {X:Cx}{pins:List (Addr × Obj)}{σ:St}{H:Hp}{s:Shared}{a:Addr}{kvs:List (Key × V)}{A:Around}{E:Value→Shared→Prop}
end


section
variable {X:Cx}{pins:List (Addr × Obj)}{σ:St}{H:Hp}{s:Shared}{a:Addr}{y:V}{u:Value}{A:Around}{E:Value→Shared→Prop}
end
end L2

namespace Att
open PySem PySem.W PySem.Calls PyProof.Rows

/-! ### the script -/
theorem ints_of_wellAll {P:Params}{h:Heap}:∀ (ns:List Int) (vs:List Value),WellAll P h vs (ns.map WData.int)→IntsAre vs ns:=by
  intro ns
  induction ns with
  | nil =>
    intro vs w
    rw [List.map_nil] at w
    cases w
    exact .nil
  | cons n ns ih =>
    intro vs w
    rw [List.map_cons] at w
    cases w with
    | cons a b =>
      cases a
      exact .cons _ _ (ih _ b)

theorem script_of {l:OpenLaw}{n:Nat} (hn:l.most=some n) {P:Params}{h:Heap}{args:List WData}{vals:List Value}
    (hpre:l.row.toRowW.claim.pre args=true) (hwl:WellAll P h vals args) :
    ∃ a vs ns,vals = [Value.ref a]∧args = [WData.list (ns.map WData.int)]∧h.get? a=some { cls:=.type "list",data:=.seq vs.toArray }∧IntsAre vs ns∧ns.length≤n:=by
  have hsh:WShape.hasAll [] args [.list .int]=true:=(pre_splitW hpre).1
  have hc:l.pre.holds [] { args:=args }=true:=(pre_splitW hpre).2
  obtain ⟨d,r,rfl,h1,h2⟩:=hasAllW_cons hsh
  obtain rfl:=hasAllW_nil h2
  obtain ⟨xs,rfl,h3⟩:=hasW_list h1
  obtain ⟨ns,rfl⟩:=items_int h3
  have hlen:ns.length≤n:=by
    unfold OpenLaw.pre at hc
    have h4:(WTm.not (.lt (.lit (.int (n:Int))) (.len (.arg 0)))).holds [] { args:=[.list (ns.map .int)] }=true:=by
      have h4:=(holds_andW hc).1
      rw [hn] at h4
      exact h4
    have h5:=condW_of h4 (w_not (w_lt w_lit (w_len_list (w_arg rfl))))
    rw [List.length_map] at h5
    refine Nat.le_of_not_lt fun q=>?_
    have q':(n:Int) < ((ns.length:Nat):Int):=by omega
    first
      | (rw [decide_eq_true q'] at h5;exact absurd h5 (by decide))
      | (simp at h5;omega)
  cases hwl with
  | cons w1 w2 =>
    cases w2
    cases w1 with
    | list ho hall=>exact ⟨_,_,ns,rfl,rfl,ho,ints_of_wellAll ns _ hall,hlen⟩

theorem post_true (l:OpenLaw) (args:List WData):l.row.toRowW.claim.post args (.bool true) args=true:=
  postW_of (r:=l.row.toRowW) (X:=(true == true))
    (show WShape.has [] (.bool true) .bool=true by first | rfl | decide | simp [WShape.has,WShape.arms,WShape.armsAll])
    (show (WTm.eq .res (.lit (.bool true))).value [] { args:=args,res:=some (.bool true),after:=args }=some (.bool (true == true)) from w_eq_bool (w_res rfl) w_lit) rfl

/-! ### the attachment: holds_open's last premise (the goal 'hc' behind k_head) from a wpAny of the law's body -/
theorem attach_call {l:OpenLaw}{n:Nat}{q:Program}{loose:List Str}{XP:(Str→Option Value)→Heap→Prop}{YP:World→Heap→Prop}{d:DefRec}
    (hn:l.most=some n) (hdf:d.params.defaults = [])
    (call:∀ (w:World) (s₀ s₁:Shared) (mg mb:Str→Option Value) (fa:Addr) (o:Obj) (pm cd doc:Value) (a:Addr) (vs:List Value) (ns:List Int),
      Ground q loose [] XP w s₀ mg mb s₁.heap→YP w s₁.heap →
      s₁.heap.get? fa=some o→o.data = .func (docDef d.name d.params d.body d.scope pm cd doc)→s₁.heap.CodeRec cd d.name→mg d.name=some (.ref fa) →
      s₁.heap.get? a=some { cls:=.type "list",data:=.seq vs.toArray }→IntsAre vs ns→ns.length≤n→s₁.gens = #[] →
      codeAny (model l.prog w) callerA (.call (.ref fa) ⟨[.ref a],[]⟩) (fun r s'=>r = .ok (.ret (.bool true))∧OldK s₁.heap s'.heap∧s'.os=s₁.os∧AllBare s'.gens) s₁) :
    WalkO q loose XP YP l.row.toRowW d [] (fun f vs=>PySem.call f vs):=by
  intro w s₀ s₁ mg mb G Y fa o pm cd doc dV kV ho hd hcd hD hmg hg args vals as hpre hlay hrd hwl hlo
  obtain rfl:dV = .none:=Dflts.none hD hdf
  obtain rfl:kV = .none:=Dflts.noKw hD
  obtain ⟨a,vs,ns,rfl,rfl,hobj,hints,hlen⟩:=script_of hn hpre hwl
  refine enter_call (codeAny_mono (call w s₀ s₁ mg mb fa o pm cd doc a vs ns G Y ho (fd_plain hd) hcd hmg hobj hints hlen hg) fun r s' hq=>?_)
  obtain ⟨rfl,h2,h3,h4⟩:=hq
  exact ⟨.inl ⟨.bool true,.bool true,[],rfl,fun _=>rfl,.bool true,post_true l _,fun _=>⟨List.Pairwise.nil,fun _ hm=>(nomatch hm)⟩⟩,h2,h3,h4⟩

/-! ### rules over ANY heap (no ledger) from facts about the written part K: the library's own take a ledger (News) for what they write -/
section
variable {prog:Program}{w:World}{A:Around}{E:Value→Shared→Prop}{s:Shared}{K:Frag}

/-! the whole heap as the ledger: makes every rule that writes through a ledger a rule over any heap -/
end
end Att

namespace L2
open PySem PySem.Spec PyProof.Rows

theorem vals_ints:∀ {vs:List Value}{ns:List Int},IntsAre vs ns→Vals (ns.map V.int) vs
  | _,_,.nil=>.nil
  | _,_,.cons n t h=>.cons ⟨t,rfl⟩ (vals_ints h)

noncomputable def Only (H:Hp):Prop:=∀ b,H b=none ∨ ∃ o xs,H b=some (.frz o (.lst xs))

theorem law_call {P:Program}{w:World}{K:PySem.W.Frag}{mg mb:Str→Option Value}{CX:CXT}{k:Nat}{fa a:Addr}{fd:FuncData}{x:Str}{sp:Sp}{s₁:Shared}{vs:List Value}{ns:List Int}
    (KX:K.In s₁.heap) (hns:s₁.heap.Ns mainGlobals mg) (hb:s₁.heap.Ns builtinsNs mb) (hbb:∀ x:Str,x ≠ "__name__"→mb x=bootBuiltins x) (hlim:s₁.heap.NoLimit) (hg:s₁.gens = #[])
    (ha:s₁.heap.get? a=some { cls:=.type "list",data:=.seq vs.toArray }) (hi:IntsAre vs ns) (hl:ns.length≤sizeLine) (hr:Room k callerA)
    (F:∀ base:Heap,K.In base→base.Ns mainGlobals mg→FnOk P w K mg base CX k fa fd [x] sp) (hbind:∀ (s:Shared) (u:Value),BindsTo s fd ⟨[u],[]⟩ [(x,u)])
    (hsp:∀ H:Hp,Only H→SqL K H a (ns.map V.int)→sp [.ref a] H (fun v _=>v = .bl true) fun _ _ _=>False)
    (hCX:∀ H e s',CX [] H s₁ (fun _ _ _=>False) e s'→False) :
    codeAny (model P w) callerA (.call (.ref fa) ⟨[.ref a],[]⟩) (fun r s'=>r = .ok (.ret (.bool true))∧OldK s₁.heap s'.heap∧s'.os=s₁.os∧AllBare s'.gens) s₁:=by
  have rv:=vals_ints hi
  have lenV:=hi.length
  -- from an abstract heap in which nothing but the script may be tracked
  have core:∀ H:Hp,Only H→SqL K H a (ns.map V.int)→HOk P w H s₁.heap→(∀ b,H b ≠ none→b=a)→(H a ≠ none→K.lookup a=none) →
      codeAny (model P w) callerA (.call (.ref fa) ⟨[.ref a],[]⟩) (fun r s'=>r = .ok (.ret (.bool true))∧OldK s₁.heap s'.heap∧s'.os=s₁.os∧AllBare s'.gens) s₁:=by
    intro H hO hS hok hA hK
    have base_of:∀ {b:Addr}{o:Obj},s₁.heap.get? b=some o→H b=none→(hidT s₁.heap H).get? b=some o:=fun e n=>hidT_get e n
    have noA:∀ {b:Addr}{o:Obj}{es:Array DictEntry}{ep:Nat},s₁.heap.get? b=some o→o.data = .dict es ep→H b=none:=fun {b o es ep} e d=>by
      cases q:H b with
      | none=>rfl
      | some u =>
        have e':b=a:=hA b (by rw [q];simp)
        subst e'
        rw [ha] at e;cases e
        have d':Data.seq vs.toArray _=Data.dict es ep:=d
        cases d'
    have nsK:∀ {b:Addr}{m:Str→Option Value},s₁.heap.Ns b m→(hidT s₁.heap H).Ns b m:=fun {b m} ⟨o,es,ep,e,d,r⟩=>⟨o,es,ep,base_of e (noA e d),d,r⟩
    have hKb:K.In (hidT s₁.heap H):=fun b o e=>base_of (KX b o e) (by
      cases q:H b with
      | none=>rfl
      | some u =>
        have e':b=a:=hA b (by rw [q];simp)
        subst e'
        rw [hK (by rw [q];simp)] at e;cases e)
    have hM:Mod K mg (hidT s₁.heap H):=⟨hKb,nsK hns,⟨mb,nsK hb,hbb⟩,let ⟨mc,h1,h2⟩:=hlim;⟨mc,nsK h1,h2⟩⟩
    have e0:Env0 P w K mg (hidT s₁.heap H) callerA [] s₁ H:=⟨rfl,hM,fun b o e=>of_hidT e,Nat.le_of_eq (hidT_size _ _),trivial,fun b hb=>absurd (show b ∈ ([]:List Addr) from hb) (by simp),hok,.of_eq hg⟩
    refine codeAny_mono ((F _ hKb (nsK hns)).run callerA [] s₁ H ⟨[.ref a],[]⟩ [.ref a] [.ref a] _ _ hr e0 (hbind s₁ (.ref a)) (.cons rfl .nil) (hsp H hO hS)) fun r s' h=>?_
    cases r with
    | error e=>exact (hCX H e s' h).elim
    | ok fl =>
      cases fl with
      | next=>exact False.elim h
      | brk=>exact False.elim h
      | cont=>exact False.elim h
      | ret u =>
        obtain ⟨v,H',os,bare,un,hok',r',q⟩:=h
        have q':v = .bl true:=q
        subst q'
        obtain rfl:u=Value.bool true:=r'
        refine ⟨rfl,OldK.of_keep fun b o e=>?_,os,bare⟩
        cases q:H b with
        | none=>exact un.keep b o e q (by intro z;exact absurd (show b ∈ ([]:List Addr) from z) (by simp)) (by simp)
        | some u =>
          rcases hO b with z | ⟨ob,xs,z⟩
          · rw [q] at z;cases z
          · have z2:=un.frzs b ob _ z
            obtain ⟨e1,_⟩:=hok b _ z
            obtain ⟨e2,_⟩:=hok' b _ z2
            rw [e] at e1;cases e1
            exact e2
  cases hk:K.lookup a with
  | some o =>
    -- the script is one of the module's own objects
    have e:=KX a o hk
    rw [ha] at e
    cases e
    refine core (fun _=>none) (fun _=>.inl rfl) (.inr ⟨_,vs.toArray,_,hk,rfl,rfl,rfl,by rw [List.size_toArray,lenV];exact hl,by simpa using rv⟩) (fun b u z=>by have z':(none:Option HO)=some u:=z;cases z') (fun b z=>absurd rfl z) fun z=>absurd rfl z
  | none =>
    refine core (fun b=>if b=a then some (.frz { cls:=.type "list",data:=.seq vs.toArray } (.lst (ns.map V.int))) else none) (fun b=>?_) (.inl (.inr ⟨{ cls:=.type "list",data:=.seq vs.toArray },if_pos rfl⟩)) (fun b u z=>?_) (fun b z=>?_) fun _=>hk
    · by_cases hb:b=a
      · exact .inr ⟨_,_,if_pos hb⟩
      · exact .inl (if_neg hb)
    · by_cases hb:b=a
      · have z':=(if_pos hb).symm.trans z
        cases z'
        subst hb
        exact ⟨ha,by rw [List.length_map];exact hl,vs,_,rv,ha⟩
      · have z':=(if_neg hb).symm.trans z
        cases z'
    · by_cases hb:b=a
      · exact hb
      · exact absurd (if_neg hb) z
end L2

namespace L2
open PySem PySem.Spec PyProof.Rows

theorem walk_of {l:PySem.W.OpenLaw}{n k:Nat}{q:Program}{loose:List Str}{XP:(Str→Option Value)→Heap→Prop}{YP:World→Heap→Prop}{d:DefRec}{K:Params→PySem.W.Frag}{CX:World→CXT}{sp:World→Sp}{x:Str}
    (hn:l.most=some n) (hn2:n≤sizeLine) (hdf:d.params.defaults = []) (hr:Room k callerA)
    (hY:∀ (w:World) (h:Heap),YP w h→(K w.params).In h)
    (F:∀ (w:World) (mg:Str→Option Value) (fa:Addr) (h:Heap),(K w.params).In h→h.Ns mainGlobals mg→mg d.name=some (.ref fa) →
      ∃ fd:FuncData,(∀ (s:Shared) (u:Value),BindsTo s fd ⟨[u],[]⟩ [(x,u)]) ∧
        ∀ base:Heap,(K w.params).In base→base.Ns mainGlobals mg→FnOk l.prog w (K w.params) mg base (CX w) k fa fd [x] (sp w))
    (hsp:∀ (w:World) (H:Hp) (a:Addr) (ns:List Int),ns.length≤n→Only H→SqL (K w.params) H a (ns.map V.int)→sp w [.ref a] H (fun v _=>v = .bl true) fun _ _ _=>False)
    (hCX:∀ (w:World) (H:Hp) (s:Shared) (e:Value) (s':Shared),CX w [] H s (fun _ _ _=>False) e s'→False) :
    PySem.W.WalkO q loose XP YP l.row.toRowW d [] (fun f vs=>PySem.call f vs):=by
  refine Att.attach_call hn hdf fun w s₀ s₁ mg mb fa o pm cd doc a vs ns G Y ho hd hcd hmg hobj hints hlen hg=>?_
  have KX:=hY w _ Y
  obtain ⟨fd,hb,hF⟩:=F w mg fa _ KX G.T.g hmg
  exact law_call KX G.T.g G.T.b G.T.builtins G.T.nolimit hg hobj hints (Nat.le_trans hlen hn2) hr hF hb (fun H hO hS=>hsp w H a ns hlen hO hS) fun H e s'=>hCX w H s₁ e s'
end L2

/- THE LAST THEOREM (shape;LID,My.* are yours):
   My.Adr: a structure of the addresses that your layer names (classes,functions);My.Txt K t: a structure (Prop) of the equations over K;
   My.txt_mk:{K}{implicit addresses ..} (e1:nsIn K mainGlobals "law"=some (some (.ref f))) (e2:K.lookup f=some ⟨oc,od,.func (fnOf "law" "law" params body scope dV kV doc pm an cdv ct),sl⟩) (e3:codeIn K cdv "law"=true) .. : ∃ t,My.Txt K t

set_option maxRecDepth 100000 in
set_option maxHeartbeats 0 in
theorem PySem.Challenge.cw_LID_holds:PySem.Challenge.rw_LID.Holds:=by
  w_on;o_law;k_head;(case hw=>w_witness2)
  k_fill
  refine L2.walk_of (l:=PySem.Challenge.rw_LID) (n:=63) (k:=40) (x := "script") (CX:=fun w=>..) (sp:=fun _=>My.sp_law) rfl (by decide) rfl ⟨rfl,by decide,by decide⟩ (fun w h Y=>PySem.W.kIn_of Y) ?F ?S ?C
  case F =>
    intro w mg fa h KX G hmg
    have T:∃ t,My.Txt (L2.KOf KX) t:=by
      dsimp only [L2.KOf]                          -- K must stand as «<heap const> w.params» for k_is
      refine' My.txt_mk ?e1 ?e2 ?e3 ..
      (case e1=>PySem.W.k_is)                    -- in the order: a name -> its address -> its object -> its parts
      (case e2=>PySem.W.k_is)
      ..
    obtain ⟨t,T⟩:=T
    have e0:=hmg.symm.trans (PySem.W.mg_of KX G T.law)
    cases e0                                       -- fa is the law's own address
    exact ⟨_,fun s u=>.of_eq rfl,fun base kb nb=>My.law_fn T kb nb⟩     -- if «.of_eq rfl» comes too early: refine' ⟨_, ?b, fun base kb nb => My.law_fn T kb nb⟩; exact fun s u => .of_eq rfl
  case S=>exact fun w H a ns hl hO hS=>..
  case C=>exact ..
(the tactic k_is has no namespace: write k_is) -/

/-! SHORT WORDS over the layer: a def of the text, its body, what a loop and a test want. -/
namespace L2
open PySem PySem.Spec PyProof.Rows

/-! ### the text by places -/
noncomputable def inClass (s:Stmt) (j:Nat):Stmt:=match s with
  | .ClassDef _ _ _ body _ _ _ _ _ _ _=>body.getD j (.Pass ⟨0,0,0,0⟩)
  | _=>.Pass ⟨0,0,0,0⟩
noncomputable def defArgs (s:Stmt):Arguments:=match s with
  | .FunctionDef _ a _ _ _ _ _ _ _ _=>a
  | _=>{ posonlyargs:=[],args:=[],vararg:=none,kwonlyargs:=[],kw_defaults:=[],kwarg:=none,defaults:=[] }
noncomputable def defBody (s:Stmt):List Stmt:=match s with
  | .FunctionDef _ _ b _ _ _ _ _ _ _=>b
  | _=>[]
noncomputable def defScope (s:Stmt):Scope:=match s with
  | .FunctionDef _ _ _ _ _ _ sc _ _ _=>sc
  | _=>{ kind:=.function,names:=[],isGenerator:=false,isCoroutine:=false }

/-! ### no exception leaves a def -/
noncomputable abbrev CX0:CXT:=fun _ _ _ _ _ _=>False
noncomputable abbrev E0:XK:=fun _ _ _=>False
theorem pass0 {X:Cx}:Passes CX0 X E0:=fun _ _ _ _ _ _ _ h=>h.elim

/-! ### a def (or method) of the text as it stands behind the top -/
structure Fun (K:PySem.W.Frag) (x qual:Str) (st:Stmt) (f:Addr) (fd:FuncData):Prop where
  ex:∃ (oc:Value) (od:Option Addr) (kV doc pm:Value) (an:Option Addr) (cdv ct:Value) (osl:Array (Option Value)),
    fd=PySem.W.fnOf x qual (defArgs st) (defBody st) (defScope st) .none kV doc pm an cdv ct∧K.lookup f=some ⟨oc,od,.func fd,osl⟩∧PySem.W.codeIn K cdv qual=true
  kp:PySem.W.keepIn K (.ref f)=true
section
variable {P:Program}{w:World}{K:PySem.W.Frag}{mg:Str→Option Value}{base:Heap}
theorem Fun.ok {x qual:Str}{st:Stmt}{f:Addr}{fd:FuncData}{N ps:List Str}{k:Nat}{sp:Sp} (F:Fun K x qual st f fd) (S:FnScope N ps (defScope st)) (len:∀ vs H Q E,sp vs H Q E→vs.length=ps.length)
    (hbody:∀ (cdv:Value) (A:Around) (outer:List Env) (s:Shared) (H:Hp) (vs:List V) (Q:VK) (E:XK),Room k (A.deeper (envOfC qual (defScope st) s.heap.objs.size f cdv))→sp vs H Q E →
      ∃ t,PSs (cxOf CX0 P w K mg base N qual (defScope st) f cdv A outer s H E).nox (defBody st) t∧t { nx:=fun _ H'=>Q .non H',rt:=Q } (start N vs) H):FnOk P w K mg base CX0 (k + 1) f fd ps sp:=by
  obtain ⟨oc,od,kV,doc,pm,an,cdv,ct,osl,rfl,lk,hcd⟩:=F.ex
  refine fn_of lk hcd S len fun A outer s H vs Q E hr hsp=>?_
  obtain ⟨t,h,q⟩:=hbody cdv A outer s H vs Q E hr hsp
  exact ⟨t,h.nox,q⟩
theorem Fun.binds {x qual:Str}{st:Stmt}{f:Addr}{fd:FuncData}{ps:List Str} (F:Fun K x qual st f fd)
    (h:∀ (kV doc pm:Value) (an:Option Addr) (cdv ct:Value) (us:List Value),us.length=ps.length→bindArgs (PySem.W.fnOf x qual (defArgs st) (defBody st) (defScope st) .none kV doc pm an cdv ct) ⟨us,[]⟩=pure (ps.zip us)):Binds K fd ps []:=by
  obtain ⟨oc,od,kV,doc,pm,an,cdv,ct,osl,rfl,lk,hcd⟩:=F.ex
  exact .all (h kV doc pm an cdv ct)
theorem fun_mk {x qual:Str}{st:Stmt}{f:Addr}{oc:Value}{od an:Option Addr}{osl:Array (Option Value)}{kV doc pm cdv ct:Value} (l:K.lookup f=some ⟨oc,od,.func (PySem.W.fnOf x qual (defArgs st) (defBody st) (defScope st) .none kV doc pm an cdv ct),osl⟩)
    (c:PySem.W.codeIn K cdv qual=true) (k:PySem.W.keepIn K (.ref f)=true):Fun K x qual st f (PySem.W.fnOf x qual (defArgs st) (defBody st) (defScope st) .none kV doc pm an cdv ct):=⟨⟨oc,od,kV,doc,pm,an,cdv,ct,osl,rfl,l,c⟩,k⟩
end
theorem hu_of {A:Around}{k:Nat} (hr:Room k A):A.units + 1 < cLine:=Nat.lt_of_le_of_lt (Nat.add_le_add_left (by decide:1≤64) _) hr.units
theorem small1000 {n:Nat} (h:n≤1000):n < sizeLine:=Nat.lt_of_le_of_lt h (by decide)

/-! ### expressions in short: the name that stands in the i-th slot -/
section
variable {X:Cx}
theorem pv (i:Nat) {x:Str}{pos:Pos} (hN:X.N[i]?=some x:=by rfl) (hv:Vis X.env.scope x:=by first | exact Or.inl rfl | exact Or.inr (Or.inl rfl) | exact Or.inr (Or.inr rfl)) (hd:(x == ("__debug__" : Str))=false:=by decide)
    (hcd:(x == ("__classdict__" : Str))=false:=by decide):PE X (.Name x pos) (tVar i):=pe_var hN hv hd hcd
end

/-! ### tests -/
theorem iteF {A B:Prop} (h:B):if false=true then A else B:=by
  rw [if_neg Bool.false_ne_true]
  exact h
theorem iteT {A B:Prop} (h:A):if true=true then A else B:=by
  rw [if_pos rfl]
  exact h
/-! ### heaps -/
noncomputable def Same (H H':Hp):Prop:=∀ b o,H b=some o→H' b=some o
theorem Same.trans {H H1 H2:Hp} (a:Same H H1) (b:Same H1 H2):Same H H2:=fun c o h=>b c o (a c o h)
theorem Same.free {H H':Hp} (e:Same H H') {l:Addr} (h:H' l=Option.none):H l=Option.none:=by
  cases q:H l with
  | none=>rfl
  | some o =>
    rw [e l o q] at h
    cases h
theorem Same.seq {K:PySem.W.Frag}{H H':Hp}{a:Addr}{xs:List V} (e:Same H H') (h:SqL K H a xs):SqL K H' a xs:=by
  rcases h with (h | ⟨o,h⟩) | h
  · exact .inl (.inl (e _ _ h))
  · exact .inl (.inr ⟨o,e _ _ h⟩)
  · exact .inr h

section
variable {X:Cx}
end
section
variable {κ:Type}[DecidableEq κ]
end
end L2

set_option Elab.async false
set_option linter.all false
namespace L2
/-! own: steps of the reader as lemmas (smaller terms) -/
theorem iVar {i:Nat}{σ:St}{v:V}{H:Hp}{Q:VK} (h:σ[i]?=some (some v)) (q:Q v H):tVar i σ H Q:=⟨v,h,q⟩
theorem iTest {b:Bool}{H:Hp}{Q:Bool→Hp→Prop} (q:Q b H):∃ k,V.bl b=V.bl k∧Q k H:=⟨b,rfl,q⟩
theorem iI0 {g:Int→Int→V}{i j:Int}{H:Hp}{Q:VK} (q:Q (g i j) H):rI0 g (.int i) (.int j) H Q:=⟨i,j,rfl,rfl,q⟩
theorem iI {C:Int→Int→Prop}{g:Int→Int→V}{i j:Int}{H:Hp}{Q:VK} (q:C i j∧Q (g i j) H):rI C g (.int i) (.int j) H Q:=⟨i,j,rfl,rfl,q⟩
end L2

set_option Elab.async false
set_option linter.all false
set_option maxRecDepth 100000
set_option maxHeartbeats 4000000
/-! Own rules, low part: the stages of an exception within a frame; its dict is known throughout. -/
namespace L2
open PySem

theorem dict_mapFields (o:Obj) (f):(o.mapFields f).dict=o.dict:=by
  obtain ⟨c,d,dt,sl⟩:=o
  cases dt <;> rfl
noncomputable def TrD (B:Heap) (ea:Addr) (cls a0 fl:Value) (dd:Option Addr) (h:Heap):Prop:=
  ∃ oe vs T oT ts,h.get? ea=some oe∧(oe.cls=cls∧vs[0]?=some a0∧oe.dict=dd)∧oe.data = .fields vs∧vs[1]?=some (.ref T)∧B.get? T=none∧T ≠ ea∧h.get? T=some oT∧oT.data = .fields ts∧ts[3]?=some fl
noncomputable def Stg (B:Heap) (L ea:Addr) (cls a0:Value) (dd:Option Addr) (h:Heap):Prop:=
  (∃ oe vs,h.get? ea=some oe∧(oe.cls=cls∧oe.dict=dd)∧oe.data = .fields vs∧vs[0]?=some a0∧vs[1]?=some .none) ∨ TrD B ea cls a0 .none dd h ∨ TrD B ea cls a0 (rawInt L) dd h
section
variable {M:Model}{A:Around}{E:Value→Shared→Prop}{s:Shared}{B:Heap}{env:Env}{outer l:List Env}{L ea:Addr}{cls a0 fl:Value}{dd:Option Addr}{Q:Unit→Shared→Prop}
theorem entryD {oe:Obj}{vs:Array Value}{head:Value}{hadNext:Bool}
    (hfr:A.frames=some (env :: outer)) (hl:s.heap.FunFrames B (env :: outer)) (hf:env.frame=some L)
    (he:s.heap.get? ea=some oe) (hkb:B.StaysIn s.heap) (hen:B.get? ea=none) (hd:oe.data = .fields vs) (hsz:1 < vs.size) (h0:vs[0]?=some a0)
    (h:∀ h',B.StaysIn h'→h'.FunFrames B (env :: outer)→TrD B ea oe.cls a0 (rawInt L) oe.dict h'→s.heap.UpToSlots h'→Q () { s with heap:=h' }) :
    wpAny M A (do let a ← frameOf env;let pl ← entryPlaceOf L hadNext;let b ← EntryCells.newEntry head a .none (rawInt L) .none pl;setField (.ref ea) 1 b) Q E s:=by
  have hene:ea ∉ (env :: outer).filterMap (·.frame):=fun hm=>by
    obtain ⟨_,o,ho,hnf⟩:=hl.mem hm
    rw [he] at ho;injection ho with ho;subst ho;exact hnf vs hd
  refine wpAny_bind (wpAny_frameOf_fun hfr hl hf fun h₁ hs₁=>?_)
  refine wpAny_bind (wpAny_entryPlaceOf fun pl hpl=>?_)
  unfold EntryCells.newEntry newFields
  refine wpAny_bind (wpAny_newObj_type ?_ (hpl.sizeOk5 _ _ _ _ _))
  have he₁:h₁.get? ea=some oe:=(hs₁.2.1 ea hene).trans he
  have kb₁:B.StaysIn h₁:=fun b o hbo=>(hs₁.2.1 b fun hm=>by rw [(hl.mem hm).1] at hbo;cases hbo).trans (hkb b o hbo)
  have he₂:=Heap.get?_push_of_some (h:=h₁) { cls:=.type "traceback",dict:=none,data:=.fields ([head,.ref L,.none,rawInt L,.none] ++ (if pl.isEmpty then List.replicate 6 Value.none else pl)).toArray } he₁
  have hTe:h₁.objs.size ≠ ea:=Nat.ne_of_gt (Heap.lt_size he₁)
  have hd₃:=Obj.data_mapFields hd (·.setIfInBounds 1 (Value.ref h₁.objs.size))
  have he₃:=Heap.get?_update_self (Obj.mapFields (·.setIfInBounds 1 (Value.ref h₁.objs.size))) he₂ (Obj.isFreed_of_fields hd₃)
  have hT₃:=(Heap.get?_update_other (h₁.push { cls:=.type "traceback",dict:=none,data:=.fields ([head,.ref L,.none,rawInt L,.none] ++ (if pl.isEmpty then List.replicate 6 Value.none else pl)).toArray })
    (Obj.mapFields (·.setIfInBounds 1 (Value.ref h₁.objs.size))) (Ne.symm hTe)).trans (Heap.get?_push_size h₁ rfl)
  have keep:∀ b o,b ≠ ea→h₁.get? b=some o →
      ((h₁.push { cls:=.type "traceback",dict:=none,data:=.fields ([head,.ref L,.none,rawInt L,.none] ++ (if pl.isEmpty then List.replicate 6 Value.none else pl)).toArray }).update ea (Obj.mapFields (·.setIfInBounds 1 (Value.ref h₁.objs.size)))).get? b=some o:=
    fun b o hbe hb=>by
      rw [Heap.get?_update_other _ _ (Ne.symm hbe)]
      exact Heap.get?_push_of_some _ hb
  have noRecord:∀ b o,s.heap.get? b=some o→(∀ vs,o.data ≠ .fields vs)→b ≠ ea:=fun b o hb hnf q=>by
    rw [q,he] at hb;injection hb with hb;subst hb;exact hnf vs hd
  refine wpAny_setField he₂ hd hsz (h _ (fun b o hbo=>keep b o (fun q=>by rw [q,hen] at hbo;cases hbo) (kb₁ b o hbo)) (hl.of_keeps fun b o hb hnf=>?_) ?_ fun b o hb hnf=>?_)
  · obtain ⟨sl,hs⟩:=hs₁.2.2 b o hb
    exact ⟨_,keep b _ (noRecord b o hb hnf) hs,rfl⟩
  · exact ⟨_,_,h₁.objs.size,_,_,he₃,⟨Obj.cls_mapFields _ _,by rw [Array.getElem?_setIfInBounds_ne (by decide)];exact h0,dict_mapFields _ _⟩,hd₃,by simp [hsz],kb₁.fresh,hTe,hT₃,rfl,by first | (simp;done) | (rcases hpl with rfl | ⟨_,_,_,_,_,_,_,rfl⟩ <;> simp)⟩
  · obtain ⟨sl,hs⟩:=hs₁.2.2 b o hb
    exact ⟨sl,keep b _ (noRecord b o hb hnf) hs⟩
theorem note_stg (hfr:A.frames=some (env :: outer)) (hl:s.heap.FunFrames B (env :: outer)) (hf:env.frame=some L) (hk:B.StaysIn s.heap) (hen:B.get? ea=none) (st:Stg B L ea cls a0 dd s.heap)
    (h:∀ h',B.StaysIn h'→h'.FunFrames B (env :: outer)→TrD B ea cls a0 (rawInt L) dd h'→s.heap.UpToSlots h'→Q () { s with heap:=h' }):wpAny M A (noteFrame (.ref ea) env) Q E s:=by
  rcases st with ⟨oe,vs,he,⟨hc,hdd⟩,hd,h0,h1⟩ | ⟨oe,vs,T,oT,ts,he,⟨hc,h0,hdd⟩,hd,h1,hnT,hTe,hT,hdT,h3⟩ | ht
  · subst hc hdd
    unfold noteFrame
    simp only [hf]
    refine wpAny_bind (wpAny_field he hd h1 ?_)
    rw [if_neg (by decide)]
    exact entryD hfr hl hf he hk hen hd (Array.getElem?_eq_some_iff.mp h1).1 h0 h
  · subst hc hdd
    unfold noteFrame
    simp only [hf]
    refine wpAny_bind (wpAny_field he hd h1 ?_)
    rw [if_pos (show (Value.ref T != Value.none)=true from by simp)]
    refine wpAny_bind (wpAny_field hT hdT h3 ?_)
    rw [if_neg (show ¬ ((Value.none == rawInt L)=true) from by simp [rawInt])]
    refine wpAny_bind (wpAny_setField hT hdT (Array.getElem?_eq_some_iff.mp h3).1 ?_)
    have other:∀ b,b ≠ T→(s.heap.update T (Obj.mapFields (·.setIfInBounds 3 Value.none))).get? b=s.heap.get? b:=fun b hb=>Heap.get?_update_other _ _ (Ne.symm hb)
    have noRecord:∀ b o,s.heap.get? b=some o→(∀ vs,o.data ≠ .fields vs)→b ≠ T:=fun b o hb hnf q=>by
      rw [q,hT] at hb;injection hb with hb;subst hb;exact hnf ts hdT
    refine entryD hfr (hl.of_keeps fun b o hb hnf=>⟨o,(other b (noRecord b o hb hnf)).trans hb,rfl⟩) hf ((other ea (Ne.symm hTe)).trans he)
      (fun b o hbo=>(other b fun q=>by rw [q,hnT] at hbo;cases hbo).trans (hk b o hbo)) hen hd (Array.getElem?_eq_some_iff.mp h1).1 h0
      fun h' x1 x2 x3 x4=>h h' x1 x2 x3 fun b o hb hnf=>x4 b o ((other b (noRecord b o hb hnf)).trans hb) hnf
  · obtain ⟨oe,vs,T,oT,ts,he,hcls,hd,h1,hnT,hTe,hT,hdT,h3⟩:=id ht
    unfold noteFrame
    simp only [hf]
    refine wpAny_bind (wpAny_field he hd h1 ?_)
    rw [if_pos (show (Value.ref T != Value.none)=true from by simp)]
    refine wpAny_bind (wpAny_field hT hdT h3 ?_)
    rw [if_pos (show (rawInt L == rawInt L)=true from by simp)]
    exact wpAny_pure (h s.heap hk hl ht (.refl _))
theorem set_flight {o:Option Addr} (hkb:B.StaysIn s.heap) (hl:s.heap.FunFrames B l) (ht:TrD B ea cls a0 fl dd s.heap)
    (h:∀ h',B.StaysIn h'→h'.FunFrames B l→TrD B ea cls a0 (o.elim Value.none fun f=>rawInt f) dd h'→s.heap.UpToSlots h'→Q () { s with heap:=h' }) :
    wpAny M A (setFlight (.ref ea) o) Q E s:=by
  obtain ⟨oe,vs,T,oT,ts,he,hcls,hd,h1,hnT,hTe,hT,hdT,h3⟩:=ht
  have hsz3:3 < ts.size:=(Array.getElem?_eq_some_iff.mp h3).1
  have other:∀ b,b ≠ T→(s.heap.update T (Obj.mapFields (·.setIfInBounds 3 (o.elim Value.none fun f=>rawInt f)))).get? b=s.heap.get? b:=
    fun b hb=>Heap.get?_update_other _ _ (Ne.symm hb)
  have noRecord:∀ b o,s.heap.get? b=some o→(∀ vs,o.data ≠ .fields vs)→b ≠ T:=fun b o hb hnf q=>by
    rw [q,hT] at hb;injection hb with hb;subst hb;exact hnf ts hdT
  unfold setFlight
  refine wpAny_bind (wpAny_field he hd h1 ?_)
  rw [if_pos (show (Value.ref T != Value.none)=true from by simp)]
  refine wpAny_setField hT hdT hsz3 (h _ (fun b o hbo=>(other b fun q=>by rw [q,hnT] at hbo;cases hbo).trans (hkb b o hbo))
    (hl.of_keeps fun b o hb hnf=>⟨o,(other b (noRecord b o hb hnf)).trans hb,rfl⟩) ?_ fun b o hb hnf=>⟨o.slots,(other b (noRecord b o hb hnf)).trans hb⟩)
  exact ⟨oe,vs,T,_,_,(other ea (Ne.symm hTe)).trans he,hcls,hd,h1,hnT,hTe,Heap.get?_update_self _ hT (Obj.isFreed_of_fields (Obj.data_mapFields hdT _)),Obj.data_mapFields hdT _,by simp [hsz3]⟩
theorem came_back (hf:env.frame=some L) (hkb:B.StaysIn s.heap) (hl:s.heap.FunFrames B l) (ht:TrD B ea cls a0 fl dd s.heap)
    (h:∀ h',B.StaysIn h'→h'.FunFrames B l→TrD B ea cls a0 (rawInt L) dd h'→s.heap.UpToSlots h'→E (.ref ea) { s with heap:=h' }):cameBackBy M A env E (.ref ea) s:=by
  obtain ⟨oe,vs,T,oT,ts,he,hcls,hd,h1,hnT,hTe,hT,hdT,h3⟩:=id ht
  unfold cameBackBy
  refine wpAny_bind (wpAny_field he hd h1 ?_)
  rw [if_neg (show ¬ ((Value.ref T == Value.none)=true) from by simp)]
  rw [hf]
  exact set_flight (o:=some L) hkb hl ht fun h' x1 x2 x3 x4=>h h' x1 x2 x3 x4
end

section
variable {M:Model}{A:Around}{E:Value→Shared→Prop}
variable {nm q nm2 q2:Str}{C N D N2:Addr}{bs bm bs2 bm2:List Value}{hdct hdct2:Bool}{sn sn2:List Str}{sub sub2:List Value}{ab ab2:Bool}{col col2:Option Bool}{dd dd2:Option Addr}{k0 k1 k2 k3 k5 j0 j1 j2 j3 j5:Option Value}{newId newId2:String}
theorem excMatches_own {h:Heap}{g:Array GenState}{d:Drawn}{t:Nat}{os:OsState}{e:Addr}{oe:Obj}{Q:Bool→Shared→Prop}
    (hC:h.get? C=some (excClassObj nm q C N bs bm hdct sn sub ab col dd k0 k1 k2 k3 k5 newId)) (hD:h.get? D=some (excClassObj nm2 q2 D N2 bs2 bm2 hdct2 sn2 sub2 ab2 col2 dd2 j0 j1 j2 j3 j5 newId2))
    (he:h.get? e=some oe) (hcls:oe.cls = .ref C) (hbase:bm2.contains (.type "BaseException")=true)
    (hq:Q ((Value.ref C :: bm).contains (.ref D)) ⟨h,g,d,t,os⟩):wpAny M A (excMatches (.ref e) (.ref D)) Q E ⟨h,g,d,t,os⟩:=by
  have hcB:(Value.ref D :: bm2).contains (.type "BaseException")=true:=by rw [List.contains_cons,hbase,Bool.or_true]
  have f:=tc_notTuple
  unfold excMatches
  repeat (first | (with_reducible refine wpAny_loadPart_at he ?_;rw [hcls]) | with_reducible refine wpAny_loadPart_at hD ?_ | with_reducible refine wpAny_loadPart_at hC ?_ | (with_reducible refine wpAny_isSubtype_exc hD ?_;rw [hcB]) | with_reducible refine wpAny_isSubtype_exc hC ?_ | wp_step)
  generalize (Value.ref C :: bm).contains (.ref D)=b at hq ⊢
  cases b <;> (wp_walk;exact hq)
end
end L2

set_option Elab.async false
set_option linter.all false
set_option maxRecDepth 100000
set_option maxHeartbeats 4000000
/-! Own rules, low part 2: t > u of tuples of ints; max over a list of such tuples. -/
namespace L2
open PySem PyProof.Rows
noncomputable def gtL:List Int→List Int→Bool
  | [],_=>false
  | _ :: _,[]=>true
  | x :: xs,y :: ys=>if x=y then gtL xs ys else decide (x > y)
section
open PySem.SeqAt
open PySem.AutoSeq1 (wpAny_loadPart')
open PySem.MeetsSeq PySem.MeetsSeq2 PySem.MeetsSeq3
theorem tuple_gt_ints (l b:Addr) (items items2:Array Value) (n n2:Nat) (dd dd2:Option Addr) (sl sl2:Array (Option Value)) (ns ms:List Int) (hi:IntsAre items.toList ns) (hj:IntsAre items2.toList ms) :
    Meets (Builtin.«tuple.__gt__» ⟨[.ref l,.ref b],[]⟩)
      (fun _ R s=>s.heap.get? l=some { cls:=.type "tuple",dict:=dd,data:=.seq items n,slots:=sl }∧s.heap.get? b=some { cls:=.type "tuple",dict:=dd2,data:=.seq items2 n2,slots:=sl2 } ∧
        R (.ok (.ret (.bool (gtL ns ms)))) s):=
  .of_wp fun prog w A R s h=>by
    obtain ⟨hp,g,d,tk,os⟩:=s;obtain ⟨hl,hb,h⟩:=h
    have f2:=AutoSeq1.sub_tuple_tuple
    have z1:items.size=ns.length:=by rw [← hi.length];simp
    have z2:items2.size=ms.length:=by rw [← hj.length];simp
    wp_walk using wpAny_loadPart' hl,wpAny_loadPart' hb,wpAny_forIn_list _ (fun rest b s'=>b.1=none∧s'=⟨hp,g,d,tk,os⟩∧∃ (vs ws:List Value) (ns' ms':List Int),rest=vs.zip ws ∧
      IntsAre vs ns'∧IntsAre ws ms'∧ns'.length + items2.size=ms'.length + items.size∧R (.ok (.ret (.bool (gtL ns' ms')))) ⟨hp,g,d,tk,os⟩) _
    case turn =>
      rintro ⟨y,x⟩ rest b s' ⟨hb',rfl,vs,ws,ns',ms',hz,hvi,hwi,hlen,hR⟩
      cases hvi with
      | nil=>rw [List.zip_nil_left] at hz;cases hz
      | cons a t hvi' =>
        cases hwi with
        | nil=>rw [List.zip_nil_right] at hz;cases hz
        | cons c u hwi' =>
          rw [List.zip_cons_cons] at hz
          injection hz with hyx hrest
          injection hyx with hy hx
          subst hy hx
          rw [gtL] at hR
          simp only [List.length_cons] at hlen
          have he:SeqAt.EqAt A.in1 ⟨hp,g,d,tk,os⟩ (.int a t) (.int c u) (a == c):=SeqAt.EqAt.int_int a t c u
          refine wpAny_bind (he prog w _ _ ?_)
          by_cases hac:a=c
          · rw [if_pos hac] at hR
            rw [beq_iff_eq.mpr hac]
            wp_walk
            exact ⟨rfl,rfl,_,_,_,_,hrest,hvi',hwi',by omega,hR⟩
          · rw [if_neg hac] at hR
            rw [beq_eq_false_iff_ne.mpr hac]
            have hri:∀ (E:Value→Shared→Prop) (Q:Value→Shared→Prop),Q (.bool (decide (a > c))) ⟨hp,g,d,tk,os⟩→wpAny (model prog w) A.in1 (richCompare .Gt (.int a t) (.int c u)) Q E ⟨hp,g,d,tk,os⟩:=
              fun E Q h=>(PyProof.Rows.gt_int h:wpAny (model prog w) A.in1 (compareOp .Gt (.int a t) (.int c u)) Q E ⟨hp,g,d,tk,os⟩)
            wp_walk using hri
            exact ⟨_,rfl,by simpa using hR⟩
    case fin =>
      rintro ⟨b1,b2⟩ s' ⟨hb',rfl,vs,ws,ns',ms',hz,hvi,hwi,hlen,hR⟩
      simp only at hb'
      subst hb'
      have hv:gtL ns' ms'=decide (items.size > items2.size):=by
        cases hvi with
        | nil =>
          simp only [List.length_nil] at hlen
          rw [gtL]
          exact (decide_eq_false (by omega)).symm
        | cons a t hv =>
          cases hwi with
          | nil =>
            simp only [List.length_nil,List.length_cons] at hlen
            rw [gtL]
            exact (decide_eq_true (by omega)).symm
          | cons c u hw =>
            rw [List.zip_cons_cons] at hz
            cases hz
      rw [hv] at hR
      wp_walk
      exact ⟨_,rfl,by simpa [Builtin.Tuple.tupleCompareSizes] using hR⟩
    case h =>
      exact ⟨rfl,rfl,items.toList,items2.toList,ns,ms,rfl,hi,hj,by omega,h⟩
end
section
variable {prog:Program}{w:World}{A:Around}{E:Value→Shared→Prop}{s:Shared}
theorem gt_tupInts {l b:Addr}{items items2:Array Value}{ns ms:List Int}{Q:Value→Shared→Prop} (hl:IsTup s.heap l items) (hb:IsTup s.heap b items2) (hi:IntsAre items.toList ns) (hj:IntsAre items2.toList ms)
    (hu:A.units < cLine) (h:Q (.bool (gtL ns ms)) s):wpAny (model prog w) A (richCompare .Gt (.ref l) (.ref b)) Q E s:=by
  obtain ⟨⟨cls,dd,data,sl⟩,ho,hc,n,hd⟩:=id hl
  obtain ⟨⟨cls2,dd2,data2,sl2⟩,ho2,hc2,n2,hd2⟩:=id hb
  simp only at hc hd hc2 hd2
  subst hc hd hc2 hd2
  exact richCompare_meets_room (op:=.Gt) ⟨_,ho,rfl⟩ ⟨_,ho2,rfl⟩ PySem.F.slot_tuple_gt PySem.F.entry_tuple_gt (PySem.F.args_tuple_gt_2 _ _) (tuple_gt_ints l b items items2 n n2 dd dd2 sl sl2 ns ms hi hj)
    ⟨ho,ho2,show Value.bool (gtL ns ms) ≠ Value.notImplemented∧Q (.bool (gtL ns ms)) s from ⟨(fun x=>nomatch x),h⟩⟩ hu
end
/-! max where the comparison looks at things that stand -/
noncomputable def CmpG (prog:Program) (w:World) (A:Around) (G:Heap) (P:Nat→Value→Prop) (bt:Nat→Nat→Bool):Prop:=
  ∀ i j vi vj (s:Shared) (Q:Value→Shared→Prop) (E:Value→Shared→Prop),P i vi→P j vj→(∀ b o,G.get? b=some o→s.heap.get? b=some o)→Q (.bool (bt i j)) s→wpAny (model prog w) A (richCompare .Gt vi vj) Q E s
section
variable {prog:Program}{w:World}{A:Around}{R:Result→Shared→Prop}{I:Addr}{fp wr:List Addr}{n:Nat}{P:Nat→Value→Prop}{St:Nat→Heap→Prop}{G:Heap}
theorem max_loopG (W:Walks prog w A.in1 I fp wr n P St) (bt:Nat→Nat→Bool) (hcmp:CmpG prog w A.in1 G P bt) (S:Addr) (hSf:S ∉ fp) (hGw:∀ b o,G.get? b=some o→b ∉ wr∧b ≠ S) :
    ∀ (k j:Nat) (s:Shared) (vb:Value) (c:Nat),n - (j + 1)=k→j + 1≤n→St (j + 1) s.heap→P (argBest bt j) vb→(∀ b o,G.get? b=some o→s.heap.get? b=some o) →
    s.heap.get? S=some { cls:=.type "list",dict:=none,data:=.seq #[vb,vb] c,slots:=#[] } →
    (∀ v h' tk,P (argBest bt (n - 1)) v→(∀ b o,b ∉ wr→b ≠ S→s.heap.get? b=some o→h'.get? b=some o)→R (.ok (.ret v)) { s with heap:=h',toks:=tk }) →
    codeAny (model prog w) A (.builtin "max.loop" ⟨[.ref I,.none,.ref S],[]⟩) R s:=by
  have hSw:S ∉ wr:=fun h=>hSf (W.sub _ h)
  have hname:(toString "max" ++ toString ".loop" : String) = "max.loop":=by decide
  intro k
  induction k with
  | zero =>
    intro j s vb c hk hj hst hPb hG hS hR
    have hin:j + 1=n:=by omega
    refine codeAny_builtin F.entry_max_loop ?_
    rw [Around.under_plainId F.plain_max_loop _]
    show wpAny _ A.in1 (seqItems? (.ref S) >>= _) _ _ s
    refine wpAny_bind (wpAny_seqItems hS rfl ?_)
    show wpAny _ A.in1 (tryCatch (pyNext (.ref I)) _ >>= _) _ _ s
    refine wpAny_bind (wpAny_tryCatch (W.done s _ _ (hin ▸ hst) fun h' tk hk'=>?_))
    have hS':=hk' S _ hSw hS
    show wpAny _ A.in1 (updateSeq S (fun _=>#[]) >>= _) _ _ _
    refine wpAny_bind ?_
    refine wpAny_updateSeq hS' rfl (wpAny_bind (wpAny_letGo (wpAny_pure ?_)))
    refine hR vb _ tk (by rw [← hin];exact hPb) fun b o hbw hbS e=>(Heap.get?_update_other _ _ (Ne.symm hbS)).trans (hk' b o hbw e)
  | succ k ih =>
    intro j s vb c hk hj hst hPb hG hS hR
    have hlt:j + 1 < n:=by omega
    refine codeAny_builtin F.entry_max_loop ?_
    rw [Around.under_plainId F.plain_max_loop _]
    show wpAny _ A.in1 (seqItems? (.ref S) >>= _) _ _ s
    refine wpAny_bind (wpAny_seqItems hS rfl ?_)
    show wpAny _ A.in1 (tryCatch (pyNext (.ref I)) _ >>= _) _ _ s
    refine wpAny_bind (wpAny_tryCatch (W.item (j + 1) s _ _ hlt hst fun v h' tk hP hst' hk'=>?_))
    have hS':=hk' S _ hSw hS
    have hG':∀ b o,G.get? b=some o→h'.get? b=some o:=fun b o e=>hk' b o (hGw b o e).1 (hG b o e)
    show wpAny _ A.in1 (tryCatch (holding [v,v] (richCompare .Gt v vb >>= _)) _ >>= _) _ _ _
    refine wpAny_bind (wpAny_tryCatch (wpAny_holding (wpAny_bind (hcmp (j + 1) (argBest bt j) v vb _ _ _ hP hPb hG' ?_))))
    refine wpAny_bind (wpAny_holding (wpAny_truthy_bool ?_))
    refine wpAny_bind (wpAny_letGo (wpAny_pure ?_))
    cases hb:bt (j + 1) (argBest bt j) with
    | true =>
      simp only [if_true]
      refine wpAny_bind ?_
      refine wpAny_updateSeq hS' rfl (wpAny_bind (wpAny_letGo ?_))
      rw [hname]
      refine wpAny_pure ⟨plainId_quiet F.plain_max_loop _,ih (j + 1) _ v _ (by omega) hlt (W.frame _ _ _ hst' fun b hbf o e=>?_) (by simp only [argBest,hb,if_true];exact hP) (fun b o e=>?_) (Heap.get?_update_self _ hS' rfl)
        fun v' h'' tk'' hP' hk''=>?_⟩
      · exact (Heap.get?_update_other _ _ (fun h:S=b=>hSf (by rw [h];exact hbf))).trans e
      · exact (Heap.get?_update_other _ _ (Ne.symm (hGw b o e).2)).trans (hG' b o e)
      · exact hR v' h'' tk'' hP' fun b o hbw hbS e=>hk'' b o hbw hbS ((Heap.get?_update_other _ _ (Ne.symm hbS)).trans (hk' b o hbw e))
    | false =>
      simp only [Bool.false_eq_true,if_false]
      refine wpAny_bind (wpAny_letGo ?_)
      rw [hname]
      refine wpAny_pure ⟨plainId_quiet F.plain_max_loop _,ih (j + 1) _ vb c (by omega) hlt hst' (by simp only [argBest,hb,Bool.false_eq_true,if_false];exact hPb) hG' hS' fun v' h'' tk'' hP' hk''=>?_⟩
      exact hR v' h'' tk'' hP' fun b o hbw hbS e=>hk'' b o hbw hbS (hk' b o hbw e)
theorem max_loop0G (W:Walks prog w A.in1 I fp wr n P St) (bt:Nat→Nat→Bool) (hcmp:CmpG prog w A.in1 G P bt) (S:Addr) (hSf:S ∉ fp) (hGw:∀ b o,G.get? b=some o→b ∉ wr∧b ≠ S) (hn:0 < n) {s:Shared}{c:Nat} (hst:St 0 s.heap)
    (hG:∀ b o,G.get? b=some o→s.heap.get? b=some o) (hS:s.heap.get? S=some { cls:=.type "list",dict:=none,data:=.seq #[] c,slots:=#[] })
    (hR:∀ v h' tk,P (argBest bt (n - 1)) v→(∀ b o,b ∉ wr→b ≠ S→s.heap.get? b=some o→h'.get? b=some o)→R (.ok (.ret v)) { s with heap:=h',toks:=tk }) :
    codeAny (model prog w) A (.builtin "max.loop" ⟨[.ref I,.none,.ref S],[]⟩) R s:=by
  have hSw:S ∉ wr:=fun h=>hSf (W.sub _ h)
  have hname:(toString "max" ++ toString ".loop" : String) = "max.loop":=by decide
  refine codeAny_builtin F.entry_max_loop ?_
  rw [Around.under_plainId F.plain_max_loop _]
  show wpAny _ A.in1 (seqItems? (.ref S) >>= _) _ _ s
  refine wpAny_bind (wpAny_seqItems hS rfl ?_)
  show wpAny _ A.in1 (tryCatch (pyNext (.ref I)) _ >>= _) _ _ s
  refine wpAny_bind (wpAny_tryCatch (W.item 0 s _ _ hn hst fun v h' tk hP hst' hk'=>?_))
  have hS':=hk' S _ hSw hS
  show wpAny _ A.in1 (updateSeq S (fun _=>#[v,v]) >>= _) _ _ _
  refine wpAny_bind ?_
  refine wpAny_updateSeq hS' rfl ?_
  rw [hname]
  refine wpAny_pure ⟨plainId_quiet F.plain_max_loop _,max_loopG W bt hcmp S hSf hGw _ 0 _ v _ rfl hn (W.frame _ _ _ hst' fun b hbf o e=>?_) hP (fun b o e=>?_) (Heap.get?_update_self _ hS' rfl) fun v' h'' tk'' hP' hk''=>?_⟩
  · exact (Heap.get?_update_other _ _ (fun h:S=b=>hSf (by rw [h];exact hbf))).trans e
  · exact (Heap.get?_update_other _ _ (Ne.symm (hGw b o e).2)).trans (hk' b o (hGw b o e).1 (hG b o e))
  · exact hR v' h'' tk'' hP' fun b o hbw hbS e=>hk'' b o hbw hbS ((Heap.get?_update_other _ _ (Ne.symm hbS)).trans (hk' b o hbw e))
end
section
variable {prog:Program}{w:World}{A:Around}{E:Value→Shared→Prop}{s:Shared}
theorem max_tups {l:Addr}{its:List Value}{nss:List (List Int)}{Q:Value→Shared→Prop} (hh:A.handled=none) (hu:A.units + 1 < cLine) (hl:s.heap.IsList l its.toArray) (hne:0 < its.length) (hln:its.length=nss.length)
    (hits:∀ (i:Nat) v,its[i]?=some v→∃ a vs,v = .ref a∧IsTup s.heap a vs∧IntsAre vs.toList (nss.getD i []))
    (h:∀ v h' tk,its[argBest (fun i j=>gtL (nss.getD i []) (nss.getD j [])) (its.length - 1)]?=some v→(∀ b o,s.heap.get? b=some o→h'.get? b=some o)→Q v { s with heap:=h',toks:=tk }) :
    wpAny (model prog w) A (call (.builtin "max") [.ref l]) Q E s:=by
  have hname:(toString "max" ++ toString ".loop" : String) = "max.loop":=by decide
  refine call_function_tree F.kind_max F.plain_max F.entry_max (F.args_max1 _) ?_
  show wpAny _ A.in1 (Builtin.Builtins.bindParams "max" ["key", "default"] 0 ⟨[],[]⟩ >>= _) _ _ s
  refine wpAny_bind (wpAny_of_eq (show Builtin.Builtins.bindParams "max" ["key", "default"] 0 ⟨[],[]⟩=pure [none,none] from rfl) ?_)
  refine wpAny_bind (wpAny_pure ?_)
  have hlt:l < s.heap.objs.size:=by obtain ⟨_,e,_⟩:=hl;exact Heap.lt_size e
  refine wpAny_bind (wpAny_pyIter_list hl ?_)
  refine wpAny_bind (wpAny_newObj_type ?_)
  rw [hname]
  have k0:∀ b o,s.heap.get? b=some o→((s.heap.push { cls:=.type "list_iterator",data:=.fields #[.ref l,.int 0 0] }).push { cls:=.type "list",dict:=none,data:=.seq #[] 0,slots:=#[] }).get? b=some o:=fun b o e=>Heap.get?_push_of_some _ (Heap.get?_push_of_some _ e)
  refine wpAny_pure ⟨plainId_quiet F.plain_max_loop _,max_loop0G (G:=s.heap) (I:=s.heap.objs.size) (n:=its.length) (Walks.list (A:=A.in1) hh s.heap.objs.size l (Nat.ne_of_lt hlt) its.toArray) (fun i j=>gtL (nss.getD i []) (nss.getD j [])) ?_ (s.heap.push { cls:=.type "list_iterator",data:=.fields #[.ref l,.int 0 0] }).objs.size ?_ ?_ hne ?_ k0 (Heap.get?_push_size _ rfl) ?_⟩
  · intro i j vi vj s1 Q1 E1 hi hj hk hq
    obtain ⟨a,vs,rfl,ta,ia⟩:=hits i vi (by simpa using hi)
    obtain ⟨b,ws,rfl,tb,ib⟩:=hits j vj (by simpa using hj)
    obtain ⟨oa,ea,ca⟩:=ta
    obtain ⟨ob,eb,cb⟩:=tb
    exact gt_tupInts ⟨oa,hk _ _ ea,ca⟩ ⟨ob,hk _ _ eb,cb⟩ ia ib (by show A.units + 1 < cLine;exact hu) hq
  · intro hm
    rw [Heap.size_push] at hm
    rcases List.mem_cons.mp hm with e | e
    · exact absurd e (Nat.ne_of_gt (Nat.lt_succ_self _))
    · exact absurd (List.mem_singleton.mp e) (Nat.ne_of_gt (Nat.lt_succ_of_lt hlt))
  · intro b o e
    rw [Heap.size_push]
    exact ⟨fun hm=>absurd (List.mem_singleton.mp hm) (Nat.ne_of_lt (Heap.lt_size e)),Nat.ne_of_lt (Nat.lt_succ_of_lt (Heap.lt_size e))⟩
  · exact ⟨⟨_,Heap.get?_push_of_some _ (Heap.get?_push_size _ rfl),rfl,rfl⟩,(hl.push _).push _⟩
  · intro v h' tk hP hk
    refine h v h' tk (by simpa using hP) fun b o e=>?_
    refine hk b o (fun hm=>absurd (List.mem_singleton.mp hm) (Nat.ne_of_lt (Heap.lt_size e))) ?_ (k0 b o e)
    rw [Heap.size_push]
    exact Nat.ne_of_lt (Nat.lt_succ_of_lt (Heap.lt_size e))
end
end L2

set_option Elab.async false
set_option linter.all false
set_option maxRecDepth 100000
set_option maxHeartbeats 4000000
/-! Own rules over the hand layer, part 1: cuts, tests, max, min, sum of a list of ints, isinstance. -/
namespace L2
open PySem PySem.Spec PyProof.Rows

/-! cuts: a middle assertion behind a statement, behind an expression -/
noncomputable def tCut (t:TS):TS:=fun D σ H=>∃ P:St→Hp→Prop,t { D with nx:=P } σ H∧∀ σ' H',P σ' H'→D.nx σ' H'
noncomputable def tCutE (t:TE):TE:=fun σ H Q=>∃ P:VK,t σ H P∧∀ v H',P v H'→Q v H'
section
variable {X:Cx}{st:Stmt}{sts:List Stmt}{t:TS}{e:Expr}{te:TE}
theorem SP.weak {pins:List (Addr × Obj)}{D:Ends}{P:St→Hp→Prop}{f:Flow}{s':Shared} (w:∀ σ' H',P σ' H'→D.nx σ' H') (h:SP X pins { D with nx:=P } f s'):SP X pins D f s':=by
  cases f with
  | next=>obtain ⟨σ',H',I,q⟩:=h;exact ⟨σ',H',I,w _ _ q⟩
  | brk=>exact h
  | cont=>exact h
  | ret u=>exact h
theorem ps_cut (h:PS X st t):PS X st (tCut t):=fun pins s σ H D I ⟨P,q,w⟩=>thn (h pins s σ H _ I q) fun _ _ z=>z.weak w
theorem pe_cut (h:PE X e te):PE X e (tCutE te):=fun pins s σ H Q I ⟨P,q,w⟩=>thn (h pins s σ H P I q) fun _ _ ⟨v,H',I',r,z⟩=>⟨v,H',I',r,w _ _ z⟩
end

/-! tests -/
theorem itY {c A B:Prop}[Decidable c] (hc:c) (h:A):if decide c=true then A else B:=by rw [decide_eq_true hc];exact iteT h
theorem itN {c A B:Prop}[Decidable c] (hc:¬ c) (h:B):if decide c=true then A else B:=by rw [decide_eq_false hc];exact iteF h
theorem it2 {c A B:Prop}[Decidable c] (h1:c→A) (h2:¬ c→B):if decide c=true then A else B:=by
  by_cases hc:c
  · exact itY hc (h1 hc)
  · exact itN hc (h2 hc)
theorem ntY {c A B:Prop}[Decidable c] (hc:¬ c) (h:A):if (!decide c)=true then A else B:=by rw [decide_eq_false hc];exact iteT h
theorem ntN {c A B:Prop}[Decidable c] (hc:c) (h:B):if (!decide c)=true then A else B:=by rw [decide_eq_true hc];exact iteF h
theorem nt2 {c A B:Prop}[Decidable c] (h1:¬ c→A) (h2:c→B):if (!decide c)=true then A else B:=by
  by_cases hc:c
  · exact ntN hc (h2 hc)
  · exact ntY hc (h1 hc)
theorem intNe {i j:Int} (h:i ≠ j):¬ V.int i=V.int j:=fun e=>h (V.int.inj e)
theorem intEq {i j:Int} (h:i=j):V.int i=V.int j:=congrArg V.int h
theorem V.intInj {i j:Int} (h:V.int i=V.int j):i=j:=V.int.inj h

/-! heaps -/
theorem Same.new {H:Hp}{p:Addr} (h:H p=none) (o:HO):Same H (upd H p o):=fun b u q=>by rw [upd_ne (ne_of_none q h)];exact q
theorem Same.tup {K:PySem.W.Frag}{H H':Hp}{a:Addr}{xs:List V} (e:Same H H') (h:SqT K H a xs):SqT K H' a xs:=by
  rcases h with (h | ⟨o,h⟩) | h
  · exact .inl (.inl (e _ _ h))
  · exact .inl (.inr ⟨o,e _ _ h⟩)
  · exact .inr h
/-! max, min, sum of a list of ints -/
section
variable {X:Cx}
theorem call_maxL (hc:X.calm=true):CallR X (.builtin "max") (fun xs H Q=>∃ (p:Addr) (ns:List Int),xs = [.ref p]∧SqL X.K H p (ns.map V.int)∧0 < ns.length∧∀ M,M ∈ ns→(∀ a ∈ ns,a≤M)→Q (.int M) H):=by
  intro pins s σ H xs us Q I r h
  obtain ⟨p,ns,rfl,hp,hne,q⟩:=h
  obtain ⟨u,rfl,ru⟩:=vals1 r
  cases ru
  obtain ⟨its,rv,pl,hz⟩:=I.list hp
  have hi:=intsAre_of rv
  have hl:=pl.isList
  obtain ⟨xs,e⟩:=hi.allInts.items
  have hns:ns=xs.toList.map (·.1):=by
    rw [← hi.numsOf,← nums_intItems,← e]
  have hsz:0 < xs.size:=by
    have h3:=hne;rw [hns,List.length_map,Array.length_toList] at h3;exact h3
  rw [e] at hl
  refine max_intList (I.ok.hd hc) hl hsz fun v h' tk hv hk=>?_
  obtain ⟨t,rfl⟩:=intItems_at hv
  obtain ⟨h1,h2⟩:=argBest_gt (numAt xs) (xs.size - 1)
  refine ⟨.int _,H,I.kept hk,⟨t,rfl⟩,q _ ?_ fun a ha=>?_⟩
  · rw [hns,numAt_eq];exact getD_mem (by rw [List.length_map,Array.length_toList];omega)
  · rw [hns] at ha
    obtain ⟨j,hj,rfl⟩:=mem_getD ha
    rw [List.length_map,Array.length_toList] at hj
    rw [← numAt_eq];exact h2 j (by omega)
theorem call_minL (hc:X.calm=true):CallR X (.builtin "min") (fun xs H Q=>∃ (p:Addr) (ns:List Int),xs = [.ref p]∧SqL X.K H p (ns.map V.int)∧0 < ns.length∧∀ M,M ∈ ns→(∀ a ∈ ns,M≤a)→Q (.int M) H):=by
  intro pins s σ H xs us Q I r h
  obtain ⟨p,ns,rfl,hp,hne,q⟩:=h
  obtain ⟨u,rfl,ru⟩:=vals1 r
  cases ru
  obtain ⟨its,rv,pl,hz⟩:=I.list hp
  have hi:=intsAre_of rv
  have hl:=pl.isList
  obtain ⟨xs,e⟩:=hi.allInts.items
  have hns:ns=xs.toList.map (·.1):=by
    rw [← hi.numsOf,← nums_intItems,← e]
  have hsz:0 < xs.size:=by
    have h3:=hne;rw [hns,List.length_map,Array.length_toList] at h3;exact h3
  rw [e] at hl
  refine min_intList (I.ok.hd hc) hl hsz fun v h' tk hv hk=>?_
  obtain ⟨t,rfl⟩:=intItems_at hv
  obtain ⟨h1,h2⟩:=argBest_lt (numAt xs) (xs.size - 1)
  refine ⟨.int _,H,I.kept hk,⟨t,rfl⟩,q _ ?_ fun a ha=>?_⟩
  · rw [hns,numAt_eq];exact getD_mem (by rw [List.length_map,Array.length_toList];omega)
  · rw [hns] at ha
    obtain ⟨j,hj,rfl⟩:=mem_getD ha
    rw [List.length_map,Array.length_toList] at hj
    rw [← numAt_eq];exact h2 j (by omega)
theorem call_isT:CallR X (.builtin "isinstance") (fun xs H Q=>∃ (x:V) (c:String) (t:Value) (b:Bool),xs = [x,.ty c]∧TyOf X.K H x t∧PySem.W.kitOne X.K t (.type c)=some b∧Q (.bl b) H):=by
  intro pins s σ H xs us Q I r h
  obtain ⟨x,c,t,b,rfl,ty,e,q⟩:=h
  obtain ⟨u,w',rfl,rx,rc⟩:=vals2 r
  cases (show w'=Value.type c from rc)
  exact isinst_ok I rx ty e fun tk=>⟨.bl b,H,I.tok tk,rfl,q⟩
end
end L2

set_option Elab.async false
set_option linter.all false
set_option maxRecDepth 100000
set_option maxHeartbeats 4000000
/-! Own rules over the hand layer, part 2: errors of own classes: raise, calls that raise, try .. except .. as. -/
namespace L2
open PySem PySem.Spec PyProof.Rows

theorem ObjOk.there {P:Program}{w:World}{H:Hp}{h:Heap}{a:Addr}{o:HO} (x:ObjOk P w H h a o):∃ ob,h.get? a=some ob:=by
  cases o with
  | lst xs=>obtain ⟨_,_,_,_,e⟩:=x;exact ⟨_,e⟩
  | tup xs=>obtain ⟨_,_,_,ob,e,_⟩:=x;exact ⟨_,e⟩
  | dK kvs=>obtain ⟨_,_,_,_,o,_,_,e,_⟩:=x;exact ⟨_,e⟩
  | dT kvs=>obtain ⟨_,_,_,_,o,_,_,e,_⟩:=x;exact ⟨_,e⟩
  | set S n=>obtain ⟨o,_,_,_,e,_⟩:=x;exact ⟨_,e⟩
  | ins C dx fs=>obtain ⟨_,_,_,e,_⟩:=x;exact ⟨_,e⟩
  | own y=>obtain ⟨_,e⟩:=x;exact ⟨_,e⟩
  | xd fs=>obtain ⟨_,⟨_,_,_,e,_⟩,_⟩:=x;exact ⟨_,e⟩
  | rng lo hi=>obtain ⟨_,_,_,e⟩:=x;exact ⟨_,e⟩
  | frz ob u=>obtain ⟨e,_⟩:=x;exact ⟨_,e⟩
  | tbl ps=>exact ⟨_,(show h.get? a=some _ from x)⟩
  | met f y=>exact ⟨_,(show h.get? a=some _ from x)⟩
  | ext φ=>obtain ⟨_,e,_⟩:=x;exact e
theorem HOk.trk {P:Program}{w:World}{H:Hp}{h h':Heap} (x:HOk P w H h) (k:∀ b u,H b ≠ none→h.get? b=some u→h'.get? b=some u):HOk P w H h':=fun a o e =>
  (x a o e).stay (fun b u hb q=>k b u (by
    rcases hb with z | z
    · rw [z,e];simp
    · rw [z];simp) q) (fun _ q=>q) fun _ _ q=>q

structure Own (X:Cx):Prop where
  stk:X.stack=X.env :: X.outer
  fr:X.env.frame=some X.env.locals
  ex:X.ex = []
noncomputable def Kept (X:Cx) (pins:List (Addr × Obj)) (H:Hp) (b:Addr):Prop:=H b ≠ none ∨ (X.s₀.heap.get? b ≠ none∧b ∉ X.fs) ∨ ∃ p ∈ X.pn ++ pins,p.1=b
section
variable {X:Cx}{pins:List (Addr × Obj)}{σ:St}{H:Hp}{s:Shared}{h':Heap}{b:Addr}
theorem some_of_ne {α:Type}{o:Option α} (h:o ≠ none):∃ x,o=some x:=by
  cases o with
  | none=>exact absurd rfl h
  | some x=>exact ⟨x,rfl⟩
theorem Kept.there (I:Inv X pins σ H s) (own:Own X) (k:Kept X pins H b):(∃ o,s.heap.get? b=some o)∧b ∉ frs X.stack:=by
  have hs:frs X.stack=X.env.locals :: X.fs:=by
    unfold frs Cx.fs
    rw [own.stk,List.filterMap_cons,own.fr]
    rfl
  rcases k with k | ⟨k1,k2⟩ | ⟨p,hp,rfl⟩
  · obtain ⟨o,e⟩:=some_of_ne k
    exact ⟨(I.hok b o e).there,fun z=>k (I.stkFree b z)⟩
  · obtain ⟨o,e⟩:=some_of_ne k1
    refine ⟨I.base.there b o e (by rw [own.ex];simp),fun z=>?_⟩
    rw [hs] at z
    rcases List.mem_cons.mp z with z | z
    · exact absurd (Nat.lt_of_lt_of_le (Heap.lt_size e) I.ok.above) (by rw [z];exact Nat.lt_irrefl _)
    · exact k2 z
  · obtain ⟨e,n,ne,nf,d⟩:=I.pin p hp
    refine ⟨⟨_,e⟩,fun z=>?_⟩
    rw [hs] at z
    rcases List.mem_cons.mp z with z | z
    · exact ne z
    · exact nf z
theorem cellUp {h h':Heap} (up:h.UpToSlots h') {c:Addr}{v:Option Value} (z:h.IsCell c v):h'.IsCell c v:=by
  obtain ⟨o,e,d⟩:=z
  obtain ⟨sl,e2⟩:=up c o e fun vs q=>by rw [d] at q;cases q
  exact ⟨_,e2,d⟩
theorem Inv.aloft (I:Inv X pins σ H s) (own:Own X) (ks:∀ b o,s.heap.get? b=some o→Kept X pins H b→h'.get? b=some o) (up:s.heap.UpToSlots h'):Inv X pins σ H { s with heap:=h' }:=by
  have frm:∀ b,b ∈ X.fs→∀ o,s.heap.get? b=some o→∃ sl,h'.get? b=some { o with slots:=sl }:=fun b hb o e=>by
    have hm:b ∈ X.stack.filterMap (·.frame):=by
      rw [own.stk,List.filterMap_cons,own.fr]
      exact List.mem_cons_of_mem _ hb
    obtain ⟨_,o',e',nf⟩:=I.stack.mem hm
    rw [e] at e'
    cases e'
    exact up b o e nf
  refine ⟨I.ok,I.os,I.bare,⟨fun b o e n hb hx=>?_,fun b o e n hb hx=>?_,I.base.free,fun b o e hx=>?_,I.base.tups,I.base.frzs,I.base.tbls⟩,?_,fun x c e=>?_,I.free,I.freeC,fun p hp=>?_,?_,I.len⟩
  · exact ks b o (I.base.keep b o e n hb hx) (.inr (.inl ⟨by rw [e];simp,hb⟩))
  · obtain ⟨sl,e1⟩:=I.base.slot b o e n hb hx
    obtain ⟨sl',e2⟩:=frm b hb _ e1
    exact ⟨sl',e2⟩
  · obtain ⟨o',e1⟩:=I.base.there b o e hx
    by_cases hb:b ∈ X.fs
    · obtain ⟨sl,e2⟩:=frm b hb _ e1
      exact ⟨_,e2⟩
    · exact ⟨o',ks b o' e1 (.inr (.inl ⟨by rw [e];simp,hb⟩))⟩
  · obtain ⟨m,hn,hl⟩:=I.loc
    refine ⟨m,up.ns hn,fun i x v e1 e2 e3=>?_⟩
    obtain ⟨u,r,l⟩:=hl i x v e1 e2 e3
    refine ⟨u,r,?_⟩
    rcases l with l | ⟨k,c,e,z⟩
    · exact .inl l
    · exact .inr ⟨k,c,e,cellUp up z⟩
  · obtain ⟨v,z⟩:=I.cell x c e
    exact ⟨v,cellUp up z⟩
  · obtain ⟨e,n,ne,nf,d⟩:=I.pin p hp
    exact ⟨ks p.1 p.2 e (.inr (.inr ⟨p,hp,rfl⟩)),n,ne,nf,d⟩
  · exact I.hok.trk fun b u hb q=>ks b u q (.inl hb)
end

noncomputable def Aloft (X:Cx) (pins:List (Addr × Obj)) (H:Hp) (B:Heap) (ea:Addr) (h:Heap):Prop:=
  B.StaysIn h∧B.get? ea=none∧h.FunFrames B X.stack∧∀ b o,h.get? b=some o→Kept X pins H b→B.get? b=some o
noncomputable def InFl (X:Cx) (pins:List (Addr × Obj)) (σ:St) (E:XK) (x:Value) (s':Shared):Prop:=
  ∃ (ea:Addr) (cls a0:Value) (dd:Option Addr) (H':Hp) (B:Heap),x = .ref ea∧E cls dd H'∧Inv X pins σ H' s'∧Aloft X pins H' B ea s'.heap∧Stg B X.env.locals ea cls a0 dd s'.heap
noncomputable def InFn (X:Cx) (E:XK) (x:Value) (s':Shared):Prop:=∃ pins σ,InFl X pins σ E x s'
structure Fly (P:Program) (w:World) (outer:List Env) (H:Hp) (s:Shared) (H':Hp) (ea:Addr) (cls:Value) (dd:Option Addr) (s':Shared):Prop where
  os:s'.os=s.os
  bare:AllBare s'.gens
  un:Un (frs outer) [] H H' s.heap s'.heap
  hok:HOk P w H' s'.heap
  fl:∃ (B:Heap) (a0:Value),(B.StaysIn s'.heap∧B.get? ea=none∧s'.heap.FunFrames B outer∧TrD B ea cls a0 .none dd s'.heap)∧(∀ b o,s'.heap.get? b=some o→H' b ≠ none→B.get? b=some o)∧∀ b o,s'.heap.get? b=some o→s.heap.get? b ≠ none→b ∉ frs outer→B.get? b=some o
noncomputable def CXE (P:Program) (w:World):CXT:=fun outer H s E e s'=>∃ ea cls dd H',e = .ref ea∧Fly P w outer H s H' ea cls dd s'∧E cls dd H'
section
variable {X:Cx}{pins:List (Addr × Obj)}{σ:St}{H:Hp}{s s':Shared}{h':Heap}{E:XK}{e:Value}{B:Heap}{ea:Addr}
theorem Aloft.move (I:Inv X pins σ H s) (own:Own X) (a:Aloft X pins H B ea s.heap) (st:B.StaysIn h') (fr:h'.FunFrames B X.stack) (up:s.heap.UpToSlots h') :
    Inv X pins σ H { s with heap:=h' }∧Aloft X pins H B ea h':=by
  obtain ⟨a1,a2,a3,a4⟩:=a
  refine ⟨I.aloft own (fun b o e k=>st b o (a4 b o e k)) up,st,a2,fr,fun b o e k=>?_⟩
  obtain ⟨⟨o1,e1⟩,_⟩:=k.there I own
  have e2:=a4 b o1 e1 k
  have e3:=st b o1 e2
  rw [e] at e3
  cases e3
  exact e2
theorem InFl.of_call (own:Own X) (I:Inv X pins σ H s) (h:CXE X.prog X.w X.stack H s E e s'):InFl X pins σ E e s':=by
  obtain ⟨ea,cls,dd,H',rfl,F,hE⟩:=h
  obtain ⟨B,a0,⟨f1,f2,f3,f4⟩,tr,old⟩:=F.fl
  have I':Inv X pins σ H' s':=I.call' F.os F.un F.hok F.bare (fun b z=>absurd z (by simp))
  refine ⟨ea,cls,a0,dd,H',B,rfl,hE,I',⟨f1,f2,f3,fun b o e k=>?_⟩,.inr (.inl f4)⟩
  rcases k with k | k
  · exact tr b o e k
  · obtain ⟨⟨o1,e1⟩,nf⟩:=Kept.there (b:=b) I own (.inr k)
    exact old b o e (by rw [e1];simp) nf
theorem InFl.of_raise (own:Own X) (I:Inv X pins σ H s) {cls:Value}{args:List Value} (mk:Heap.MadeExcOf s.heap h' ea cls args) (hE:E cls none H):InFl X pins σ E (.ref ea) { s with heap:=h' }:=by
  obtain ⟨t,he,htn,ht⟩:=mk.there
  have st:(PySem.W.hideAll s.heap (frs X.stack)).StaysIn s.heap:=fun b o q=>PySem.W.of_hideAll _ q
  have I':Inv X pins σ H { s with heap:=h' }:=I.kept (t':=s.toks) mk.keeps
  refine ⟨ea,cls,.ref t,none,H,PySem.W.hideAll s.heap (frs X.stack),rfl,hE,I',⟨fun b o q=>mk.keeps b o (st b o q),?_,?_,fun b o e k=>?_⟩,.inl ⟨_,_,he,⟨rfl,rfl⟩,rfl,rfl,rfl⟩⟩
  · cases q:(PySem.W.hideAll s.heap (frs X.stack)).get? ea with
    | none=>rfl
    | some o=>have z:=st ea o q;rw [mk.new] at z;cases z
  · exact (PySem.W.funFrames_hide I.stack fun env he a ha=>List.mem_filterMap.mpr ⟨env,he,ha⟩).of_keeps fun b o hb _=>⟨o,mk.keeps b o hb,rfl⟩
  · obtain ⟨⟨o1,e1⟩,nf⟩:=k.there I own
    have e2:=mk.keeps b o1 e1
    have e:h'.get? b=some o:=e
    rw [e2] at e
    cases e
    exact PySem.W.hideAll_get _ e1 nf
theorem InFl.leave {E':Value→Shared→Prop}{x:Value} (own:Own X) (h:InFl X pins σ E x s'):wpAny (model X.prog X.w) X.A (leaving X.env x) (fun _ s''=>CXE X.prog X.w X.outer X.H₀ X.s₀ E x s'') E' s':=by
  obtain ⟨ea,cls,a0,dd,H',B,rfl,hE,I,a,st⟩:=h
  have hfr:X.A.frames=some (X.env :: X.outer):=by rw [I.ok.frames,own.stk]
  obtain ⟨a1,a2,a3,a4⟩:=id a
  rw [own.stk] at a3
  unfold leaving
  refine wpAny_bind (note_stg hfr a3 own.fr a1 a2 st fun h1 x1 x2 x3 x4=>?_)
  obtain ⟨I1,b⟩:=Aloft.move I own a x1 (by rw [own.stk];exact x2) x4
  refine set_flight (s:={ s' with heap:=h1 }) (o:=none) x1 x2 x3 fun h2 y1 y2 y3 y4=>?_
  obtain ⟨I2,c⟩:=Aloft.move I1 own b y1 (by rw [own.stk];exact y2) y4
  refine ⟨ea,cls,dd,H',rfl,⟨I2.os,I2.bare,?_,I2.hok,B,a0,⟨y1,a2,y2.2.2,y3⟩,fun b o e k=>c.2.2.2 b o e (.inl k),fun b o e k nf=>c.2.2.2 b o e (.inr (.inl ⟨k,nf⟩))⟩,hE⟩
  have z:=I2.base
  rw [own.ex] at z
  exact z
theorem passesOwn_fn (own:Own X):PassesOwn (model X.prog X.w) X.A X.env (InFn X E):=by
  intro x s1 h
  obtain ⟨pins,σ,ea,cls,a0,dd,H',B,rfl,hE,I,a,st⟩:=h
  have hfr:X.A.frames=some (X.env :: X.outer):=by rw [I.ok.frames,own.stk]
  obtain ⟨a1,a2,a3,a4⟩:=id a
  rw [own.stk] at a3
  unfold notedBy
  refine note_stg hfr a3 own.fr a1 a2 st fun h1 x1 x2 x3 x4=>?_
  obtain ⟨I1,b⟩:=Aloft.move I own a x1 (by rw [own.stk];exact x2) x4
  refine came_back (s:={ s1 with heap:=h1 }) own.fr x1 x2 x3 fun h2 y1 y2 y3 y4=>?_
  obtain ⟨I2,c⟩:=Aloft.move I1 own b y1 (by rw [own.stk];exact y2) y4
  exact ⟨pins,σ,ea,cls,a0,dd,H',B,rfl,hE,I2,c,.inr (.inr y3)⟩
theorem InFl.unwish {W:Value→Shared→Prop}{x:Value} (h:InFl (X.wish W) pins σ E x s'):InFl X pins σ E x s':=by
  obtain ⟨ea,cls,a0,dd,H',B,q,hE,I,a,st⟩:=h
  exact ⟨ea,cls,a0,dd,H',B,q,hE,I.unwish,a,st⟩
theorem Own.wish (own:Own X) (W:Value→Shared→Prop):Own (X.wish W):=⟨own.stk,own.fr,own.ex⟩
theorem passes_fn (own:Own X):Passes (CXE X.prog X.w) (X.wish (InFn X E)) E:=fun pins σ H s e s' I h =>
  ⟨pins,σ,(InFl.of_call (own.wish _) I h).unwish⟩
theorem passF {P:Program}{w:World}:Passes (CXE P w) X E0:=fun _ _ _ _ _ _ _ ⟨_,_,_,_,_,_,h⟩=>h.elim
theorem PSs.wishTo {W:Value→Shared→Prop}{sts:List Stmt}{t:TS} (h:PSs (X.wish W) sts t) (hw:∀ e s',W e s'→X.xe e s'):PSs X sts t:=fun pins s σ H D I ht =>
  wpAny_mono (h pins s σ H D (I.wish _) ht) (fun _ _ q=>q.unwish) hw
end

noncomputable def Raises (X:Cx) (E:XK):Prop:=∀ (pins:List (Addr × Obj)) (σ:St) (H:Hp) (s:Shared) (h':Heap) (ea:Addr) (cls:Value) (args:List Value),Inv X pins σ H s→Heap.MadeExcOf s.heap h' ea cls args→E cls none H→X.xe (.ref ea) { s with heap:=h' }
theorem raises_fn {X:Cx}{E:XK} (own:Own X):Raises (X.wish (InFn X E)) E:=fun pins σ H s h' ea cls args I mk hE=>⟨pins,σ,(InFl.of_raise (own.wish _) I mk hE).unwish⟩

/-! ### own error classes of the text -/
theorem exc_obj {K:PySem.W.Frag}{h:Heap}{C:Addr}{bmB:List Value}{newId:String} (X:K.In h) (q:PySem.W.excIn K C bmB newId=true) :
    ∃ (bm:List Value) (N:Addr) (nm qn:Str) (bs:List Value) (hd:Bool) (sn:List Str) (sub:List Value) (ab:Bool) (col:Option Bool) (dd:Option Addr) (k0 k1 k2 k3 k5:Option Value) (mN:Str→Option Value),
      h.get? C=some (excClassObj nm qn C N bs bm hd sn sub ab col dd k0 k1 k2 k3 k5 newId)∧h.Ns N mN∧mN "__init__"=none∧OwnTail h bmB bm:=by
  unfold PySem.W.excIn at q
  split at q
  · rename_i dd cd sl ho
    split at q
    · rename_i C' bm k0 k1 k2 k3 n k5 hm hs
      simp only [Bool.and_eq_true,beq_iff_eq,Bool.not_eq_true'] at q
      obtain ⟨⟨⟨⟨⟨rfl,rfl⟩,hdel⟩,ht⟩,hok⟩,hni⟩:=q
      obtain ⟨nm,bs,mro,ns,qn,hd,sn,sub,ab,col,del⟩:=cd
      dsimp only at hm hdel hok hni
      subst hm hdel
      have hsl:sl = #[k0,k1,k2,k3,some (.builtin n),k5]:=by
        obtain ⟨l⟩:=sl
        simp only at hs
        rw [hs]
      subst hsl
      exact ⟨bm,ns,nm,qn,bs,hd,sn,sub,ab,col,dd,k0,k1,k2,k3,k5,_,X _ _ ho,.of_isNs (PySem.W.isNs_of_in X hok),PySem.W.nsMap_none_of_in X hok hni,PySem.W.tail_of_in X ht⟩
    · cases q
  · cases q
noncomputable abbrev bmV:List Value:=[.type "ValueError",.type "Exception",.type "BaseException",.type "object"]
noncomputable abbrev ExcV (K:PySem.W.Frag) (C:Addr):Prop:=PySem.W.excIn K C bmV "ValueError.__new__"=true
noncomputable def tRaise (C:Addr) (E:XK) (t:TA):TS:=fun _ σ H=>t σ H fun vs H1=>vs.length≤sizeLine∧E (.ref C) none H1
theorem ps_raise {X:Cx}{E:XK}{C:Addr}{x:Str}{np cpos pos:Pos}{e:Expr}{es:List Expr}{t:TA} (hR:Raises X E) (hc:X.calm=true) (V:ExcV X.K C) (hg:Gl X x) (hm:X.mg x=some (.ref C)) (ha:PA X (e :: es) t)
    (he:starEach (e :: es) X.env=(false,eval e X.env) :: starEach es X.env:=by rfl) (hpl:(backTo cpos (starEach es X.env)).any (·.1)=false:=by rfl) (hd:(x == ("__debug__" : Str))=false:=by decide) :
    PS X (.Raise (some (.Call (.Name x np) (e :: es) [] cpos)) none pos) (tRaise C E t):=by
  intro pins s σ H D I h
  have FB:=PySem.F.excBase_ValueError
  obtain ⟨tl,N,nm,q,bs,hdct,sn,sub,ab,col,dd,k0,k1,k2,k3,k5,mN,hC,hN,hni,T⟩:=exc_obj I.mod.kin V
  refine wpAny_Raise_call_subT (C:=C) (nm:=nm) (q:=q) (N:=N) (bs:=bs) (bm:=tl) (hdct:=hdct) (sn:=sn) (sub:=sub) (ab:=ab) (col:=col) (dd:=dd) (k0:=k0) (k1:=k1) (k2:=k2) (k3:=k3) (k5:=k5)
    FB (mN:=mN) (T.hasType FB.hasBase) (I.ok.hd hc) (by rw [he];show (false || (backTo cpos (starEach es X.env)).any (·.1))=false;rw [hpl];rfl) hni (ld_glob I hg hm ⟨rfl,?_⟩ hd)
  have hp:=ha cpos pins s σ H _ I h
  rw [he] at hp ⊢
  refine Calls.evalArgs_plain (thn hp fun us s1 zz=>?_)
  obtain ⟨vs,H1,I1,r,hz,hE⟩:=zz
  exact ⟨rfl,by show us.length≤sizeLine;rw [← r.length];exact hz,I1.bk _ _ hC,hN.keeps I1.bk,T.keeps I1.bk,fun h' ea mk=>hR pins σ H1 s1 h' ea _ us I1 mk hE⟩

/-! ### a def that may raise -/
theorem own_cxOf {CX:CXT}{P:Program}{w:World}{K:PySem.W.Frag}{mg:Str→Option Value}{base:Heap}{N:List Str}{qual:Str}{scope:Scope}{f:Addr}{cd:Value}{A:Around}{outer:List Env}{s:Shared}{H:Hp}{E:XK} :
    Own (cxOf CX P w K mg base N qual scope f cd A outer s H E):=⟨rfl,rfl,rfl⟩
section
variable {P:Program}{w:World}{K:PySem.W.Frag}{mg:Str→Option Value}{base:Heap}
theorem Fun.okX {x qual:Str}{st:Stmt}{f:Addr}{fd:FuncData}{N ps:List Str}{k:Nat}{sp:Sp} (F:Fun K x qual st f fd) (S:FnScope N ps (defScope st)) (len:∀ vs H Q E,sp vs H Q E→vs.length=ps.length)
    (hbody:∀ (cdv:Value) (A:Around) (outer:List Env) (s:Shared) (H:Hp) (vs:List V) (Q:VK) (E:XK),Room k (A.deeper (envOfC qual (defScope st) s.heap.objs.size f cdv))→sp vs H Q E →
      ∃ t,PSs ((cxOf (CXE P w) P w K mg base N qual (defScope st) f cdv A outer s H E).wish (InFn (cxOf (CXE P w) P w K mg base N qual (defScope st) f cdv A outer s H E) E)) (defBody st) t∧t { nx:=fun _ H'=>Q .non H',rt:=Q } (start N vs) H) :
    FnOk P w K mg base (CXE P w) (k + 1) f fd ps sp:=by
  obtain ⟨oc,od,kV,doc,pm,an,cdv,ct,osl,rfl,lk,hcd⟩:=F.ex
  refine fn_of lk hcd S len fun A outer s H vs Q E hr hsp=>?_
  obtain ⟨t,h,q⟩:=hbody cdv A outer s H vs Q E hr hsp
  refine ⟨t,h.wishTo fun e s' zz=>?_,q⟩
  obtain ⟨pins,σ,z⟩:=zz
  exact z.leave own_cxOf
end

/-! ### calls within a try: an exception is wanted where the names stand as at the try's beginning -/
noncomputable def PassesAt (CX:CXT) (X:Cx) (E:XK) (σ:St):Prop:=∀ (pins:List (Addr × Obj)) (H:Hp) (s:Shared) (e:Value) (s':Shared),Inv X pins σ H s→CX X.stack H s E e s'→X.xe e s'
noncomputable def tCallT (sp:Sp) (dvs:List V) (E:XK) (σ₀:St) (t:TA):TE:=fun σ H Q=>σ=σ₀∧t σ H fun vs H1=>sp (vs ++ dvs) H1 Q E
section
variable {X:Cx}{CX:CXT}{k:Nat}{f C:Addr}{fd:FuncData}{ps:List Str}{sp:Sp}{dvs:List V}{ds:List Value}{E:XK}{σ₀:St}{x m:Str}{p pos apos:Pos}{e o:Expr}{es:List Expr}{ta:TE}{t:TA}
theorem run_fnT {pins:List (Addr × Obj)}{H:Hp}{s:Shared}{Q:VK}{us:List Value}{vs:List V} (F:FnOk X.prog X.w X.K X.mg X.base CX k f fd ps sp) (hr:Room k X.A) (hb:Binds X.K fd ps ds) (hd:Vals dvs ds) (hx:PassesAt CX X E σ₀)
    (I:Inv X pins σ₀ H s) (r:Vals vs us) (h:sp (vs ++ dvs) H Q E):wpAny (model X.prog X.w) X.A (call (.ref f) us) (EP X pins σ₀ Q) X.xe s:=by
  have r2:Vals (vs ++ dvs) (us ++ ds):=r.append hd
  have hl:(us ++ ds).length=ps.length:=by rw [← r2.length];exact F.len _ _ _ _ h
  refine wpAny_call (codeAny_mono (F.run X.A X.stack s H ⟨us,[]⟩ (us ++ ds) (vs ++ dvs) Q E hr I.env0 (hb s us I.kIn hl) r2 h) fun r s' hq=>?_)
  cases r with
  | error e=>exact hx pins H s e s' I hq
  | ok fl =>
    cases fl with
    | ret u=>exact I.after hq
    | next=>exact False.elim hq
    | brk=>exact False.elim hq
    | cont=>exact False.elim hq
theorem pe_callT (F:FnOk X.prog X.w X.K X.mg X.base CX k f fd ps sp) (hr:Room k X.A) (hg:Gl X x) (hm:X.mg x=some (.ref f)) (hk:PySem.W.keepIn X.K (.ref f)=true) (hb:Binds X.K fd ps ds) (hd:Vals dvs ds) (hx:PassesAt CX X E σ₀)
    (ha:PA X (e :: es) t) (hdb:(x == ("__debug__" : Str))=false:=by decide) (he:starEach (e :: es) X.env=(false,eval e X.env) :: starEach es X.env:=by rfl) (hpl:(backTo pos (starEach es X.env)).any (·.1)=false:=by rfl) :
    PE X (.Call (.Name x p) (e :: es) [] pos) (tCallT sp dvs E σ₀ t):=by
  rintro pins s σ H Q I ⟨rfl,h⟩
  refine wpAny_Call_Name_kw (ld_glob I hg hm ?_ hdb)
  refine PySem.W.callWith_K (h₀:=X.base) I.ok.mod.kin hk (thn (ha pos pins s σ H _ I h) fun us s1 ⟨vs,H1,I1,r,q⟩=>⟨I1.kIn,?_⟩) he hpl
  exact run_fnT F hr hb hd hx I1 r q
end

/-! ### an exception that is held by a name -/
noncomputable def exO (ea C:Addr) (dd:Option Addr):HO:=.ext fun h=>∃ o vs,h.get? ea=some o∧o.cls = .ref C∧o.dict=dd∧o.data = .fields vs
theorem exO_ok {P:Program}{w:World}{H:Hp}{h:Heap}{ea C:Addr}{dd:Option Addr}{o:Obj}{vs:Array Value} (e:h.get? ea=some o) (hc:o.cls = .ref C) (hd:o.dict=dd) (hf:o.data = .fields vs):ObjOk P w H h ea (exO ea C dd):=
  ⟨⟨o,vs,e,hc,hd,hf⟩,⟨o,e⟩,fun h1 h2 ⟨o1,ws,e1,r⟩ k=>⟨o1,ws,k o1 e1,r⟩⟩
section
variable {X:Cx}{pins:List (Addr × Obj)}{σ:St}{H:Hp}{s:Shared}{h':Heap}{ea C:Addr}{dd:Option Addr}
theorem Inv.track (I:Inv X pins σ H s) (hn:H ea=none) (new:X.s₀.heap.get? ea=none) (neL:ea ≠ X.env.locals) (nc:∀ x c,X.env.cells.lookup x=some c→c ≠ ea) (np:∀ p ∈ X.pn ++ pins,p.1 ≠ ea)
    (ok:∀ H',ObjOk X.prog X.w H' s.heap ea (exO ea C dd)):Inv X pins σ (upd H ea (exO ea C dd)) s:=by
  have un:∀ {b o},H b=some o→b ≠ ea:=fun e z=>by rw [z,hn] at e;cases e
  refine ⟨I.ok,I.os,I.bare,⟨I.base.keep,I.base.slot,fun b o e n hx=>?_,I.base.there,fun b xs e=>?_,fun b o u e=>?_,fun b ps e=>?_⟩,I.loc,I.cell,?_,fun x c e=>?_,fun p hp=>?_,fun b u e=>?_,I.len⟩
  · rw [upd_ne (fun z=>by rw [z,new] at e;cases e)]
    exact I.base.free b o e n hx
  · have z:=I.base.tups b xs e
    rw [upd_ne (un z)]
    exact z
  · have z:=I.base.frzs b o u e
    rw [upd_ne (un z)]
    exact z
  · obtain ⟨more,z⟩:=I.base.tbls b ps e
    exact ⟨more,by rw [upd_ne (un z)];exact z⟩
  · rw [upd_ne (Ne.symm neL)]
    exact I.free
  · rw [upd_ne (nc x c e)]
    exact I.freeC x c e
  · obtain ⟨e,n,r⟩:=I.pin p hp
    exact ⟨e,by rw [upd_ne (np p hp)];exact n,r⟩
  · by_cases hb:b=ea
    · subst hb
      rw [upd_same] at e
      cases e
      exact ok _
    · rw [upd_ne hb] at e
      exact (I.hok b u e).stay (fun c v _ q=>q) (fun c q=>by rw [upd_ne (un q)];exact q) fun c xs q=>by rw [upd_ne (un q)];exact q
theorem Inv.forget {i:Nat}{n:Str}{m:Str→Option Value}{v:Option Value}{tk:Nat} (I:Inv X pins σ H s) (hN:X.N.Nodup) (hi:X.N[i]?=some n)
    (hm:∀ (j:Nat) (x:Str) (u:V),X.N[j]?=some x→σ[j]?=some (some u)→Vis X.env.scope x→∃ w',RelV u w'∧Look X.env s.heap m x w') (hn':h'.Ns X.env.locals (fun x=>if x=n then v else m x)) (hs:Heap.SameBut X.env.locals s.heap h'):Inv X pins (σ.set i none) H { s with heap:=h',toks:=tk }:=by
  obtain ⟨m0,hn0,_⟩:=id I.loc
  obtain ⟨oL,_,_,hoL,_⟩:=id hn0
  have tracked:HOk X.prog X.w H h':=fun b ob e=>by
    refine (I.hok b ob e).stay (fun c w' hc q=>(hs.2 c ?_).trans q) (fun _ q=>q) fun _ _ q=>q
    rintro rfl
    rcases hc with rfl | hc
    · rw [I.free] at e;cases e
    · rw [I.free] at hc;cases hc
  refine ⟨I.ok,I.os,I.bare,⟨fun b o e n hb hx=>?_,fun b o e n hb hx=>?_,I.base.free,fun b o e hx=>?_,I.base.tups,I.base.frzs,I.base.tbls⟩,⟨_,hn',fun j y v' e1 e2 e3=>?_⟩,fun y c e=>?_,I.free,I.freeC,fun p hp=>?_,tracked,by simpa using I.len⟩
  · exact (hs.2 b (Nat.ne_of_lt (Nat.lt_of_lt_of_le (Heap.lt_size e) I.ok.above))).trans (I.base.keep b o e n hb hx)
  · obtain ⟨sl,e1⟩:=I.base.slot b o e n hb hx
    exact ⟨sl,(hs.2 b (Nat.ne_of_lt (Nat.lt_of_lt_of_le (Heap.lt_size e) I.ok.above))).trans e1⟩
  · obtain ⟨o',e1⟩:=I.base.there b o e hx
    exact ⟨o',(hs.2 b (Nat.ne_of_lt (Nat.lt_of_lt_of_le (Heap.lt_size e) I.ok.above))).trans e1⟩
  · by_cases hj:j=i
    · subst hj
      by_cases hlt:j < σ.length
      · rw [List.getElem?_set_self hlt] at e2
        cases e2
      · rw [List.getElem?_eq_none (by rw [List.length_set];omega)] at e2
        cases e2
    · rw [List.getElem?_set_ne (Ne.symm hj)] at e2
      obtain ⟨u',r',q⟩:=hm j y v' e1 e2 e3
      refine ⟨u',r',?_⟩
      rcases q with ⟨k,e⟩ | ⟨k,c,e,z⟩
      · refine .inl ⟨k,?_⟩
        have:y ≠ n:=fun e=>hj (nodup_ix hN e1 (e ▸ hi))
        simp [this,e]
      · exact .inr ⟨k,c,e,z.sameBut hs (I.cne y c e)⟩
  · obtain ⟨w',z⟩:=I.cell y c e
    exact ⟨w',z.sameBut hs (I.cne y c e)⟩
  · obtain ⟨e,n,ne,nf,d⟩:=I.pin p hp
    exact ⟨(hs.2 p.1 ne).trans e,n,ne,nf,d⟩
end

/-! ### try .. except D as n -/
noncomputable def excUnder (K:PySem.W.Frag) (C D:Addr):Bool:=match K.lookup C with
  | some ⟨_,_,.cls cd,_⟩=>cd.mro.contains (.ref D)
  | _=>false
structure ExcM (K:PySem.W.Frag) (C D:Addr):Prop where
  c:PySem.W.ktsIn K C "BaseException"=true
  u:excUnder K C D=true
noncomputable def tTry (K:PySem.W.Frag) (D:Addr) (i:Nat) (tb:XK→St→TS) (ts:TS):TS:=fun Q σ H=>∃ E:XK,tb E σ Q σ H∧∀ cls dd H',E cls dd H'→∃ C,cls = .ref C∧ExcM K C D ∧
  ∀ ea,H' ea=none→ts { nx:=fun σ2 H2=>Q.nx (σ2.set i none) H2,rt:=Q.rt,bk:=fun σ2 H2=>Q.bk (σ2.set i none) H2,ct:=fun σ2 H2=>Q.ct (σ2.set i none) H2 } (σ.set i (some (.ref ea))) (upd H' ea (exO ea C dd))
noncomputable abbrev Cx.bodyT (X:Cx) (pn:List (Addr × Obj)) (W:Value→Shared→Prop):Cx:={ X with pn:=pn,xe:=W }
noncomputable abbrev Cx.suite (X:Cx) (A:Around):Cx:={ X with A:=A,calm:=false,xe:=fun _ _=>False }
section
variable {X:Cx}{pins pn:List (Addr × Obj)}{σ:St}{H:Hp}{s:Shared}{W:Value→Shared→Prop}
theorem Cx.Ok.bodyT (ok:X.Ok):(X.bodyT pn W).Ok:=
  ⟨ok.mod,ok.kind,ok.glob,ok.blt,ok.above,ok.inj,ok.has,ok.cab,ok.hd,ok.frames,ok.stk,ok.exf,ok.bs,ok.bsz,ok.noex,ok.exfs,ok.funs,ok.frf⟩
theorem Cx.Ok.unbodyT (ok:(X.bodyT pn W).Ok):X.Ok:=
  ⟨ok.mod,ok.kind,ok.glob,ok.blt,ok.above,ok.inj,ok.has,ok.cab,ok.hd,ok.frames,ok.stk,ok.exf,ok.bs,ok.bsz,ok.noex,ok.exfs,ok.funs,ok.frf⟩
theorem Inv.bodyT (I:Inv X pins σ H s):Inv (X.bodyT (X.pn ++ pins) W) [] σ H s:=
  ⟨I.ok.bodyT,I.os,I.bare,I.base,I.loc,I.cell,I.free,I.freeC,fun p hp=>I.pin p (by simpa using hp),I.hok,I.len⟩
theorem Inv.unbodyT {q:List (Addr × Obj)} (I:Inv (X.bodyT (X.pn ++ pins) W) q σ H s):Inv X pins σ H s:=
  ⟨I.ok.unbodyT,I.os,I.bare,I.base,I.loc,I.cell,I.free,I.freeC,fun p hp=>I.pin p (List.mem_append_left _ hp),I.hok,I.len⟩
theorem SP.unbodyT {D:Ends}{f:Flow} (h:SP (X.bodyT (X.pn ++ pins) W) [] D f s):SP X pins D f s:=by
  cases f with
  | next=>obtain ⟨σ',H',I,q⟩:=h;exact ⟨σ',H',I.unbodyT,q⟩
  | brk=>obtain ⟨σ',H',I,q⟩:=h;exact ⟨σ',H',I.unbodyT,q⟩
  | cont=>obtain ⟨σ',H',I,q⟩:=h;exact ⟨σ',H',I.unbodyT,q⟩
  | ret u=>obtain ⟨v,σ',H',I,r,q⟩:=h;exact ⟨v,σ',H',I.unbodyT,r,q⟩
theorem Cx.Ok.suite {A:Around} (ok:X.Ok) (hA:A.frames=X.A.frames):(X.suite A).Ok:=
  ⟨ok.mod,ok.kind,ok.glob,ok.blt,ok.above,ok.inj,ok.has,ok.cab,fun h=>(by cases h),hA.trans ok.frames,ok.stk,ok.exf,ok.bs,ok.bsz,ok.noex,ok.exfs,ok.funs,ok.frf⟩
theorem Inv.suite {A:Around} (I:Inv X pins σ H s) (hA:A.frames=X.A.frames):Inv (X.suite A) pins σ H s:=⟨I.ok.suite hA,I.os,I.bare,I.base,I.loc,I.cell,I.free,I.freeC,I.pin,I.hok,I.len⟩
theorem Inv.unsuite {A:Around} (ok:X.Ok) (I:Inv (X.suite A) pins σ H s):Inv X pins σ H s:=⟨ok,I.os,I.bare,I.base,I.loc,I.cell,I.free,I.freeC,I.pin,I.hok,I.len⟩
end
theorem exc_two {K:PySem.W.Frag}{h:Heap}{C D:Addr} (X:K.In h) (m:ExcM K C D):∃ (nm q:Str) (N:Addr) (bs bm:List Value) (hdct:Bool) (sn:List Str) (sub:List Value) (ab:Bool) (col:Option Bool) (dd:Option Addr) (k0 k1 k2 k3 k5:Option Value) (newId:String),
    h.get? C=some (excClassObj nm q C N bs bm hdct sn sub ab col dd k0 k1 k2 k3 k5 newId)∧(Value.ref C :: bm).contains (.ref D)=true:=by
  obtain ⟨nm,q,N,bs,bm,hdct,sn,sub,ab,col,dd,k0,k1,k2,k3,k5,newId,hC,_,_⟩:=PySem.W.kts_cls X m.c
  refine ⟨nm,q,N,bs,bm,hdct,sn,sub,ab,col,dd,k0,k1,k2,k3,k5,newId,hC,?_⟩
  have u:=m.u
  unfold excUnder at u
  split at u
  · rename_i c' d' cd sl ho
    have z:=(X _ _ ho).symm.trans hC
    cases z
    exact u
  · cases u
theorem ps_try {X:Cx}{body suite:List Stmt}{b₀:Stmt}{tb:XK→St→TS}{ts:TS}{D:Addr}{x n:Str}{i:Nat}{np hp pos:Pos} (own:Own X)
    (hb:∀ (pn:List (Addr × Obj)) (W:Value→Shared→Prop) (E:XK) (σ₀:St),PassesAt (CXE X.prog X.w) (X.bodyT pn W) E σ₀→PSs (X.bodyT pn W) body (tb E σ₀))
    (VD:PySem.W.ktsIn X.K D "BaseException"=true) (hg:Gl X x) (hm:X.mg x=some (.ref D)) (hN:X.N.Nodup) (hi:X.N[i]?=some n) (hl:X.env.kindOf n=some .local) (hs:∀ A':Around,PSs (X.suite A') (b₀ :: suite) ts)
    (hd:(x == ("__debug__" : Str))=false:=by decide):PS X (.Try body [.ExceptHandler (some (.Name x np)) (some n) (b₀ :: suite) hp] [] [] pos) (tTry X.K D i tb ts):=by
  intro pins s σ H Q I h
  obtain ⟨E,hE,hH⟩:=h
  have ownT:∀ W,Own (X.bodyT (X.pn ++ pins) W):=fun W=>⟨own.stk,own.fr,own.ex⟩
  have hfr:X.A.frames=some (X.env :: X.outer):=by rw [I.ok.frames,own.stk]
  refine wpAny_Try_except ?_
  -- the body, wanting of an exception that it is one of this frame's, the names as at the beginning
  have pa:PassesAt (CXE X.prog X.w) (X.bodyT (X.pn ++ pins) (InFl X pins σ E)) E σ:=fun pins' H1 s1 e s2 I1 hx=>by
    obtain ⟨ea,cls,a0,dd,H',B,rfl,hE',I2,a,st⟩:=InFl.of_call (X:=X.bodyT (X.pn ++ pins) (InFl X pins σ E)) (ownT _) I1 hx
    refine ⟨ea,cls,a0,dd,H',B,rfl,hE',I2.unbodyT,⟨a.1,a.2.1,a.2.2.1,fun b o eb k=>a.2.2.2 b o eb ?_⟩,st⟩
    rcases k with k | k | ⟨p,hp,z⟩
    · exact .inl k
    · exact .inr (.inl k)
    · exact .inr (.inr ⟨p,List.mem_append_left _ hp,z⟩)
  refine wpAny_mono (hb _ _ E σ pa [] s σ H Q I.bodyT hE) (fun f s1 q=>?_) fun e s1 q=>?_
  · have q':=q.unbodyT
    cases f with
    | next =>
      obtain ⟨σ',H',I',z⟩:=q'
      exact wpAny_execs_nil ⟨σ',H',I',z⟩
    | ret u=>exact q'
    | brk=>exact q'
    | cont=>exact q'
  · -- the exception is looked at
    obtain ⟨ea,cls,a0,dd,H',B,rfl,hE',I1,a,st⟩:=q
    obtain ⟨C,rfl,mC,hts⟩:=hH cls dd H' hE'
    obtain ⟨a1,a2,a3,a4⟩:=id a
    rw [own.stk] at a3
    refine note_stg hfr a3 own.fr a1 a2 st fun h1 x1 x2 x3 x4=>?_
    obtain ⟨I2,b⟩:=Aloft.move I1 own a x1 (by rw [own.stk];exact x2) x4
    refine set_flight (s:={ s1 with heap:=h1 }) (o:=none) x1 x2 x3 fun h2 y1 y2 y3 y4=>?_
    obtain ⟨I3,c⟩:=Aloft.move I2 own b y1 (by rw [own.stk];exact y2) y4
    have hAf:(X.A.mark (some (.ref ea))).frames=X.A.frames:=rfl
    have I4:=I3.suite (A:=X.A.mark (some (.ref ea))) hAf
    refine wpAny_handleBy_cons (codeAny_handlers_test (ld_glob (X:=X.suite (X.A.mark (some (.ref ea)))) I4 hg hm ?_ hd)) (by intro q;cases q)
    obtain ⟨nm,q,N,bs,bm,hdct,sn,sub,ab,col,dc,k0,k1,k2,k3,k5,newId,hC,hcon⟩:=exc_two I3.kIn mC
    obtain ⟨nm2,q2,N2,bs2,bm2,hdct2,sn2,sub2,ab2,col2,dc2,j0,j1,j2,j3,j5,newId2,hD,hbase,_⟩:=PySem.W.kts_cls I3.kIn VD
    obtain ⟨oe,vs,T,oT,ws,he,hcls,hdt,_⟩:=id y3
    refine excMatches_own hC hD he hcls.1 hbase ?_
    rw [hcon]
    refine codeAny_handlers_suite_as ?_
    refine set_flight (o:=none) y1 y2 y3 fun h3 z1 z2 z3 z4=>?_
    obtain ⟨I5,d⟩:=Aloft.move I3 own c z1 (by rw [own.stk];exact z2) z4
    -- the exception is tracked, and bound to the name
    obtain ⟨oe,vs,T,oT,ws,he,hcls,hdt,_⟩:=id z3
    have new:∀ {b:Addr}{o:Obj},h3.get? b=some o→Kept X pins H' b→b ≠ ea:=fun e k z=>by
      have w':=d.2.2.2 _ _ e k
      rw [z,a2] at w'
      cases w'
    have nH:H' ea=none:=by
      cases q:H' ea with
      | none=>rfl
      | some o=>exact absurd rfl (new he (.inl (by rw [q];simp)))
    have nfr:ea ∉ frs X.stack:=fun hm=>by
      obtain ⟨_,o,ho,hnf⟩:=I5.stack.mem hm
      have ho:h3.get? ea=some o:=ho
      rw [he] at ho
      cases ho
      exact hnf vs hdt
    have hstk:frs X.stack=X.env.locals :: X.fs:=by
      unfold frs Cx.fs
      rw [own.stk,List.filterMap_cons,own.fr]
      rfl
    rw [hstk] at nfr
    have nS:X.s₀.heap.get? ea=none:=by
      cases q:X.s₀.heap.get? ea with
      | none=>rfl
      | some o=>exact absurd rfl (new he (.inr (.inl ⟨by rw [q];simp,fun z=>nfr (List.mem_cons_of_mem _ z)⟩)))
    have nC:∀ x c,X.env.cells.lookup x=some c→c ≠ ea:=fun y c e z=>by
      obtain ⟨v,o,ho,hcd⟩:=I5.cell y c e
      have ho:h3.get? c=some o:=ho
      rw [z,he] at ho
      cases ho
      rw [hdt] at hcd
      cases hcd
    have nP:∀ p ∈ X.pn ++ pins,p.1 ≠ ea:=fun p hp=>by
      obtain ⟨e,_⟩:=I5.pin p hp
      exact new e (.inr (.inr ⟨p,hp,rfl⟩))
    have I6:=I5.track (C:=C) (dd:=dd) nH nS (fun z=>nfr (by rw [z];exact List.mem_cons_self)) nC nP fun H''=>exO_ok he hcls.1 hcls.2.2 hdt
    have I7:=I6.suite (A:=X.A.mark (some (.ref ea))) hAf
    refine store_ok (X:=X.suite (X.A.mark (some (.ref ea)))) (v:=.ref ea) I7 hN hi (.inl hl) rfl (fun s4 I8=>?_) (.inr hl)
    refine wpAny_mono (hs _ pins s4 _ _ _ I8 (hts ea nH)) (fun f s5 q=>?_) fun _ _ z=>False.elim z
    -- behind the suite the name goes
    have go:∀ {σ2:St}{H2:Hp},Inv (X.suite (X.A.mark (some (.ref ea)))) pins σ2 H2 s5→(∀ s6,Inv X pins (σ2.set i none) H2 s6→SP X pins Q f s6) →
        wpAny (model X.prog X.w) X.A (do bindName X.env n .none;unbindBehindTheSuite X.env n hp) (fun _ s6=>SP X pins Q f s6) X.xe s5:=fun {σ2 H2} J k=>by
      obtain ⟨m,hn,hlo⟩:=id J.loc
      refine wpAny_nameGoes_keeps hl hn (by rw [I.ok.kind];rfl) fun h' v hn' hsb=>?_
      exact k _ ((J.unsuite I.ok).forget hN hi hlo hn' hsb)
    cases f with
    | next =>
      obtain ⟨σ2,H2,J,z⟩:=q
      exact go J fun s6 J6=>⟨_,H2,J6,z⟩
    | brk =>
      obtain ⟨σ2,H2,J,z⟩:=q
      exact go J fun s6 J6=>⟨_,H2,J6,z⟩
    | cont =>
      obtain ⟨σ2,H2,J,z⟩:=q
      exact go J fun s6 J6=>⟨_,H2,J6,z⟩
    | ret u =>
      obtain ⟨v,σ2,H2,J,r,z⟩:=q
      exact go J fun s6 J6=>⟨v,_,H2,J6,r,z⟩
end L2

set_option Elab.async false
set_option linter.all false
set_option maxRecDepth 100000
set_option maxHeartbeats 4000000
/-! Own rules over the hand layer, part 3: list comprehensions of one clause. -/
namespace L2
open PySem PySem.Spec PyProof.Rows

/-! ### the loop -/
section
variable {prog:Program}{w:World}{A:Around}{R:Result→Shared→Prop}{s:Shared}
theorem comp_loop {elt target iter:Expr}{ifs:List Expr}{scope:Scope}{pos:Pos}{it acc:Value}{env:Env} (I:Nat→Shared→Prop)
    (turn:∀ n s,I n s→wpAny (model prog w) A (pyNext it) (fun r s₁=>match r with
      | none=>R (.ok .next) s₁
      | some v=>wpAny (model prog w) A (letOwnedTupleGo target it v) (fun _ s₁'=>wpAny (model prog w) A (assign target env v) (fun _ s₂ =>
          wpAny (model prog w) A (forIn ifs true fun c r=>if r=true then do let ok ← isTrue c env (eval c env);pure (ForInStep.yield ok) else pure (ForInStep.yield r)) (fun ok s₃ =>
            if ok=true then wpAny (model prog w) A (eval elt env) (fun x s₄ =>
              wpAny (model prog w) A (call (.builtin "list.append") [acc,x]) (fun _ s₅=>∃ m,m < n∧I m s₅) (fun _ _=>False) s₄) (fun _ _=>False) s₃
            else ∃ m,m < n∧I m s₃) (fun _ _=>False) s₂) (fun _ _=>False) s₁') (fun _ _=>False) s₁) (fun _ _=>False) s)
    (n:Nat) (h:I n s):codeAny (model prog w) A (.compLoop (.ListComp elt [⟨target,iter,ifs,0⟩] scope pos) 0 it acc env) R s:=by
  refine codeAny_loop rfl I (fun n s hI=>?_) n h
  show wpAny _ A ((compTurn (.ListComp elt [⟨target,iter,ifs,0⟩] scope pos) 0 it acc env).onRaise (fun x=>do noteFrame x env;theTreesLotGoes x)) _ _ s
  refine wpAny_noted ?_
  rw [compTurn_list]
  refine wpAny_bind (wpAny_standAt (wpAny_bind (wpAny_mono (turn n s hI) (fun r s₁ h₁=>?_) fun _ _ h'=>h'.elim)))
  cases r with
  | none=>exact wpAny_pure h₁
  | some v =>
    refine wpAny_bind (wpAny_mono h₁ (fun _ s₁' h₁'=>?_) fun _ _ h'=>h'.elim)
    refine wpAny_bind (wpAny_mono h₁' (fun _ s₂ h₂=>wpAny_bind (wpAny_mono h₂ (fun ok s₃ h₃=>?_) fun _ _ h'=>h'.elim)) fun _ _ h'=>h'.elim)
    cases ok with
    | false=>exact wpAny_pure ⟨rfl,h₃⟩
    | true =>
      exact wpAny_bind (wpAny_bind (wpAny_mono h₃ (fun x s₄ h₄=>wpAny_bind (wpAny_mono h₄ (fun _ s₅ h₅=>wpAny_pure (wpAny_pure ⟨rfl,h₅⟩)) fun _ _ h'=>h'.elim)) fun _ _ h'=>h'.elim))
end

/-! ### the closure -/
noncomputable def clOf (env:Env) (names:List (Str × NameKind)) (acc:List (Str × Addr)):List (Str × Addr):=match names with
  | []=>acc
  | (n,k) :: r=>clOf env r (if k == .free then (n,(env.cells.lookup n).getD 0) :: acc else acc)
theorem clOf_mem {env:Env}{y:Str}{c:Addr}:∀ {names:List (Str × NameKind)}{acc:List (Str × Addr)},(∀ p ∈ names,p.2 = .free→∃ c,env.cells.lookup p.1=some c)→(∀ y c,acc.lookup y=some c→env.cells.lookup y=some c) →
    (clOf env names acc).lookup y=some c→env.cells.lookup y=some c
  | [],acc,_,ha,h=>ha y c h
  | (n,k) :: r,acc,hf,ha,h=>by
    refine clOf_mem (names:=r) (fun p hp=>hf p (List.mem_cons_of_mem _ hp)) ?_ h
    intro z d hz
    by_cases hk:k = .free
    · subst hk
      obtain ⟨e,he⟩:=hf (n,.free) List.mem_cons_self rfl
      rw [if_pos (by rfl),he] at hz
      rw [List.lookup_cons] at hz
      cases hzn:(z == n) with
      | true =>
        rw [hzn] at hz
        rw [beq_iff_eq.mp hzn,he]
        exact hz
      | false =>
        rw [hzn] at hz
        exact ha z d hz
    · rw [if_neg (by simpa using hk)] at hz
      exact ha z d hz
theorem clOf_acc {env:Env}{y:Str}:∀ {names:List (Str × NameKind)}{acc:List (Str × Addr)},(acc.lookup y).isSome=true→((clOf env names acc).lookup y).isSome=true
  | [],_,h=>h
  | (n,k) :: r,acc,h=>by
    refine clOf_acc (names:=r) ?_
    by_cases hk:k = .free
    · subst hk
      rw [if_pos (by rfl),List.lookup_cons]
      cases (y == n) <;> simp [h]
    · rw [if_neg (by simpa using hk)]
      exact h
theorem clOf_has {env:Env}{y:Str}:∀ {names:List (Str × NameKind)}{acc:List (Str × Addr)},(y,NameKind.free) ∈ names→((clOf env names acc).lookup y).isSome=true
  | [],_,h=>by cases h
  | (n,k) :: r,acc,h=>by
    rcases List.mem_cons.mp h with e | h
    · cases e
      refine clOf_acc (names:=r) ?_
      rw [if_pos (by rfl),List.lookup_cons]
      simp
    · exact clOf_has (names:=r) h
theorem closureFor_cl {env:Env}{scope:Scope} (hf:∀ p ∈ scope.names,p.2 = .free→∃ c,env.cells.lookup p.1=some c):closureFor scope env=pure (clOf env scope.names []):=by
  have go:∀ (names:List (Str × NameKind)) (acc:List (Str × Addr)),(∀ p ∈ names,p.2 = .free→∃ c,env.cells.lookup p.1=some c) →
      (forIn names acc (fun (x:Str × NameKind) r=>if (x.2 == NameKind.free)=true then do let c ← cellOf env x.1;pure (ForInStep.yield ((x.1,c) :: r)) else pure (ForInStep.yield r)):Sem (List (Str × Addr)))=pure (clOf env names acc):=by
    intro names
    induction names with
    | nil=>intro acc _;rfl
    | cons x r ih =>
      intro acc hf
      obtain ⟨n,k⟩:=x
      rw [List.forIn_cons]
      by_cases hk:k = .free
      · subst hk
        obtain ⟨c,hc⟩:=hf (n,.free) List.mem_cons_self rfl
        have e1:cellOf env n=pure c:=by unfold cellOf;rw [hc]
        simp only [e1,pure_bind,beq_self_eq_true,if_true]
        rw [ih _ fun p hp=>hf p (List.mem_cons_of_mem _ hp)]
        have e2:clOf env ((n,NameKind.free) :: r) acc=clOf env r ((n,c) :: acc):=by
          show clOf env r (if (NameKind.free == NameKind.free)=true then (n,(env.cells.lookup n).getD 0) :: acc else acc)=_
          rw [if_pos (by rfl),hc]
          rfl
        rw [e2]
      · have e1:(k == NameKind.free)=false:=by simpa using hk
        simp only [e1,pure_bind,Bool.false_eq_true,if_false]
        rw [ih _ fun p hp=>hf p (List.mem_cons_of_mem _ hp)]
        have e2:clOf env ((n,k) :: r) acc=clOf env r acc:=by
          show clOf env r (if (k == NameKind.free)=true then (n,(env.cells.lookup n).getD 0) :: acc else acc)=_
          rw [if_neg (by simp [e1])]
        rw [e2]
  unfold closureFor
  have h:=go scope.names [] hf
  simp only [bind_pure] at h ⊢
  exact h

/-! ### the block -/
noncomputable abbrev Cx.blk (X:Cx) (sc:Scope) (C:Addr) (s₁:Shared) (H₁:Hp) (pn:List (Addr × Obj)) (fp:List Addr) (NB:List Str):Cx:=
  { X with N:=NB,s₀:=s₁,H₀:=H₁,env:=compEnvC sc (clOf X.env sc.names []) C X.env,outer:=X.stack,ex:=fp,fn:=fun _=>false,pn:=pn,xe:=fun _ _=>False }
noncomputable def PIf (X:Cx) (ifs:List Expr) (t:TT):Prop:=∀ (pins:List (Addr × Obj)) (s:Shared) (σ:St) (H:Hp) (Q:Bool→Hp→Prop),Inv X pins σ H s→t σ H Q →
  wpAny (model X.prog X.w) X.A (forIn ifs true fun c r=>if r=true then do let ok ← isTrue c X.env (eval c X.env);pure (ForInStep.yield ok) else pure (ForInStep.yield r)) (TP X pins σ Q) X.xe s
noncomputable def tYes:TT:=fun _ H Q=>Q true H
theorem pif_nil {X:Cx}:PIf X [] tYes:=fun _ _ _ H _ I h=>wpAny_tests_nil ⟨H,I,h⟩
theorem pif_one {X:Cx}{c:Expr}{t:TT} (h:PT X c t):PIf X [c] t:=fun pins s σ H Q I ht=>wpAny_tests_one (h pins s σ H Q I ht)
noncomputable abbrev TC:=V→Hp→(List V→Prop)→Prop
noncomputable def cName:TC:=fun x _ R=>R [x]
noncomputable def cTup (K:PySem.W.Frag) (k:Nat):TC:=fun x H R=>∃ a xs,x = .ref a∧SqT K H a xs∧xs.length=k∧R xs
noncomputable def CompR (J:It) (c:TC) (tif:TT) (te:TE) (σ:St) (Q:VK) (acc:Addr) (H0:Hp):Prop:=∃ W:Nat→Nat→List V→Hp→Prop,(∃ m,W 0 m [] H0) ∧
  ∀ i m ys H,W i m ys H→(J.stop i H∧Q (.ref acc) H) ∨ (J.go i H∧∀ x H',J.yld i H x H'→c x H' fun xs=>tif (σ ++ xs.map some) H' fun b H3 =>
    if b=true then te (σ ++ xs.map some) H3 fun v H4=>H4 acc=some (.lst ys)∧ys.length < sizeLine∧∃ m',m' < m∧W (i + 1) m' (ys ++ [v]) (upd H4 acc (.lst (ys ++ [v])))
    else ∃ m',m' < m∧W (i + 1) m' ys H3)
noncomputable def tComp (wi:TI) (c:TC) (tif:TT) (te:TE):TE:=fun σ H Q=>wi σ H fun J H1=>∀ acc,H1 acc=none→CompR J c tif te σ Q acc (upd H1 acc (.lst []))
noncomputable def Takes (g:TG) (c:TC) (n k:Nat):Prop:=∀ (σ tl:St) (x:V) (H:Hp) (Q:List V→Prop),σ.length=n→tl.length=k→c x H Q→g x (σ ++ tl) H fun σ2 H2=>∃ xs:List V,xs.length=k∧H2=H∧σ2=σ ++ xs.map some∧Q xs
theorem takes_name {n:Nat}:Takes (gName n) cName n 1:=fun σ tl x H Q hn hk h=>by
  obtain ⟨t,rfl⟩:∃ t,tl = [t]:=by
    match tl,hk with
    | [t],_=>exact ⟨t,rfl⟩
  refine ⟨[x],rfl,rfl,?_,h⟩
  rw [List.set_append_right _ _ (by omega)]
  rw [show n - σ.length=0 by omega]
  rfl
theorem takes_two {K:PySem.W.Frag}{n:Nat}:Takes (gTup K 2 (gCons (gName n) (gCons (gName (n + 1)) gNil))) (cTup K 2) n 2:=fun σ tl x H Q hn hk h=>by
  obtain ⟨a,xs,rfl,hT,hl,q⟩:=h
  match xs,hl with
  | [u,v],_ =>
    obtain ⟨t1,t2,rfl⟩:∃ t1 t2,tl = [t1,t2]:=by
      match tl,hk with
      | [t1,t2],_=>exact ⟨t1,t2,rfl⟩
    refine ⟨a,[u,v],rfl,hT,rfl,u,[v],rfl,v,[],rfl,rfl,[u,v],rfl,rfl,?_,q⟩
    rw [List.set_append_right _ _ (by omega),show n - σ.length=0 by omega,List.set_append_right _ _ (by omega),show n + 1 - σ.length=1 by omega]
    rfl
theorem Un.same {fs ex:List Addr}{H H':Hp}{h h1 h2:Heap}{C:Addr} (u:Un fs ex H H' h h1) (hs:Heap.SameBut C h1 h2) (hC:h.get? C=none):Un fs ex H H' h h2:=by
  have ne:∀ {b o},h.get? b=some o→b ≠ C:=fun e z=>by rw [z,hC] at e;cases e
  refine ⟨fun b o e n hb hx=>(hs.2 b (ne e)).trans (u.keep b o e n hb hx),fun b o e n hb hx=>?_,u.free,fun b o e hx=>?_,u.tups,u.frzs,u.tbls⟩
  · obtain ⟨sl,z⟩:=u.slot b o e n hb hx
    exact ⟨sl,(hs.2 b (ne e)).trans z⟩
  · obtain ⟨o',z⟩:=u.there b o e hx
    exact ⟨o',(hs.2 b (ne e)).trans z⟩
theorem HOk.same {P:Program}{w:World}{H:Hp}{h h':Heap}{C:Addr} (x:HOk P w H h) (hs:Heap.SameBut C h h') (hC:H C=none):HOk P w H h':=
  x.trk fun b u hb q=>(hs.2 b fun z=>hb (by rw [z];exact hC)).trans q

theorem lookup_relabel {env:Env}{k:NameKind}:∀ {names:List (Str × NameKind)}{x:Str},(names.map fun (n,k)=>if (k == NameKind.free && env.scope.kind == .function && env.kindOf n == some .cell) then (n,NameKind.cell) else (n,k)).lookup x=some k →
    ∃ k0,names.lookup x=some k0∧(k0=k ∨ (k0 = .free∧k = .cell))
  | [],_,h=>by simp at h
  | (n,k0) :: r,x,h=>by
    have ih:=@lookup_relabel env k r x
    rw [List.map_cons] at h
    dsimp only at h
    rw [List.lookup_cons]
    by_cases hc:(k0 == NameKind.free && env.scope.kind == .function && env.kindOf n == some .cell)=true
    · have hk0:k0 = .free:=by
        simp only [Bool.and_eq_true,beq_iff_eq] at hc
        exact hc.1.1
      rw [show (if (k0 == NameKind.free && env.scope.kind == .function && env.kindOf n == some .cell)=true then (n,NameKind.cell) else (n,k0))=(n,NameKind.cell) from if_pos hc,List.lookup_cons] at h
      cases hx:(x == n) with
      | true =>
        rw [hx] at h
        exact ⟨k0,rfl,.inr ⟨hk0,(Option.some.inj h).symm⟩⟩
      | false =>
        rw [hx] at h
        exact ih h
    · rw [show (if (k0 == NameKind.free && env.scope.kind == .function && env.kindOf n == some .cell)=true then (n,NameKind.cell) else (n,k0))=(n,k0) from if_neg hc,List.lookup_cons] at h
      cases hx:(x == n) with
      | true =>
        rw [hx] at h
        exact ⟨k0,rfl,.inl (Option.some.inj h)⟩
      | false =>
        rw [hx] at h
        exact ih h
theorem mem_of_lk {κ α:Type}[BEq κ] [LawfulBEq κ] {x:κ}{a:α}:∀ {l:List (κ × α)},l.lookup x=some a→(x,a) ∈ l
  | [],h=>by cases h
  | (y,b) :: r,h=>by
    rw [List.lookup_cons] at h
    cases hx:(x == y) with
    | true =>
      rw [hx] at h
      cases h
      rw [beq_iff_eq.mp hx]
      exact List.mem_cons_self
    | false =>
      rw [hx] at h
      exact List.mem_cons_of_mem _ (mem_of_lk h)
structure ScOk (sc sc0:Scope) (N NB ts:List Str):Prop where
  kind:sc.kind = .function
  nocell:∀ p ∈ sc.names,p.2 ≠ .cell
  loc:∀ p ∈ sc.names,p.2 = .local→sc.names.lookup p.1=some .local
  locN:∀ (i:Nat) (x:Str),i < N.length→NB[i]?=some x→sc.names.lookup x ≠ some .local
  free:∀ p ∈ sc.names,p.2 = .free→sc0.names.lookup p.1=some .cell ∨ sc0.names.lookup p.1=some .free
  same:∀ (i:Nat) (x:Str),i < N.length→NB[i]?=some x→sc.names.lookup x=some .free→N[i]?=some x
  len:NB.length=N.length + ts.length
noncomputable def scOkB (sc sc0:Scope) (N NB ts:List Str):Bool:=(sc.kind == .function) && sc.names.all (fun p=>(p.2 != .cell) && (p.2 != .local || sc.names.lookup p.1 == some .local) && (p.2 != .free || sc0.names.lookup p.1 == some .cell || sc0.names.lookup p.1 == some .free)) &&
  (List.range N.length).all (fun i=>match NB[i]? with | none=>true | some x=>(sc.names.lookup x != some .local) && (sc.names.lookup x != some .free || N[i]? == some x)) && (NB.length == N.length + ts.length)
theorem ScOk.of {sc sc0:Scope}{N NB ts:List Str} (h:scOkB sc sc0 N NB ts=true):ScOk sc sc0 N NB ts:=by
  unfold scOkB at h
  simp only [Bool.and_eq_true,List.all_eq_true,beq_iff_eq,List.mem_range,Bool.or_eq_true,bne_iff_ne,ne_eq] at h
  obtain ⟨⟨⟨h1,h2⟩,h3⟩,h4⟩:=h
  refine ⟨h1,fun p hp=>(h2 p hp).1.1,fun p hp e=>((h2 p hp).1.2).resolve_left fun z=>z e,fun i x hi e=>?_,fun p hp e=>?_,fun i x hi e f=>?_,h4⟩
  · have z:=h3 i hi
    rw [e] at z
    simp only [Bool.and_eq_true,bne_iff_ne,ne_eq] at z
    exact z.1
  · rcases (h2 p hp).2 with (z | z) | z
    · exact absurd e z
    · exact .inl z
    · exact .inr z
  · have z:=h3 i hi
    rw [e] at z
    simp only [Bool.and_eq_true,bne_iff_ne,ne_eq,Bool.or_eq_true,beq_iff_eq] at z
    exact z.2.resolve_left fun q=>q f
theorem pe_comp {X:Cx}{elt tg iter:Expr}{ifs:List Expr}{sc sc0:Scope}{pos:Pos}{N NB ts:List Str}{wi:TI}{g:TG}{c:TC}{tif:TT}{te:TE} (hc:X.calm=true) (hsc:X.env.scope=sc0) (hXN:X.N=N) (S:ScOk sc sc0 N NB ts)
    (hi:PI X tg iter wi) (ht:Takes g c N.length ts.length)
    (hg:∀ (C:Addr) (s₁:Shared) (H₁:Hp) (pn:List (Addr × Obj)) (fp:List Addr),PG (X.blk sc C s₁ H₁ pn fp NB) tg g)
    (hf:∀ (C:Addr) (s₁:Shared) (H₁:Hp) (pn:List (Addr × Obj)) (fp:List Addr),PIf (X.blk sc C s₁ H₁ pn fp NB) ifs tif)
    (he:∀ (C:Addr) (s₁:Shared) (H₁:Hp) (pn:List (Addr × Obj)) (fp:List Addr),PE (X.blk sc C s₁ H₁ pn fp NB) elt te)
    (hs:∀ x,foldedSetIterable iter X.env x=pure x:=by intro _;rfl):PE X (.ListComp elt [⟨tg,iter,ifs,0⟩] sc pos) (tComp wi c tif te):=by
  intro pins s σ H Q I h
  rw [eval_ListComp]
  have hcell:∀ p ∈ sc.names,p.2 = .free→∃ c,X.env.cells.lookup p.1=some c:=fun p hp e=>by
    have k:=S.free p hp e
    refine I.ok.has p.1 ?_
    show X.env.scope.names.lookup p.1=some .cell ∨ X.env.scope.names.lookup p.1=some .free
    rw [hsc]
    exact k
  have hclm:∀ y c,(clOf X.env sc.names []).lookup y=some c→X.env.cells.lookup y=some c:=fun y c e=>clOf_mem hcell (fun _ _ z=>by cases z) e
  refine wpAny_comprehension_free (use:=none) rfl hs (closureFor_cl hcell) S.kind S.loc ?_
  refine thn (hi pins s σ H _ I h) fun v s1 h1=>thn h1 fun itv s2 h2=>?_
  obtain ⟨it,fp,tn,J,H2,e,I2,T,st2,f2,q2⟩:=h2
  subst e
  have hσ:σ.length=N.length:=by rw [I2.len,hXN]
  have fa:H2 s2.heap.objs.size=none:=I2.hok.fresh (Nat.le_refl _)
  obtain ⟨W,⟨m0,w0⟩,turn⟩:=q2 s2.heap.objs.size fa
  refine wpAny_newObj_type (wpAny_newFunctionEnv S.nocell (by intro y hy;simp at hy) (fun h₁ hns₁ hsb₁=>?_) S.kind)
  dsimp only at hns₁ hsb₁ ⊢
  generalize hH2:s2.heap.push { cls:=.type "list",dict:=none,data:=.seq ([]:List Value).toArray }=hp2 at hns₁ hsb₁ ⊢
  have hC:hp2.objs.size=s2.heap.objs.size + 1:=by rw [← hH2,Heap.size_push]
  have old:∀ b o,s2.heap.get? b=some o→h₁.get? b=some o:=fun b o e=>hsb₁.extBut b o (by rw [hC];exact Nat.ne_of_lt (Nat.lt_succ_of_lt (Heap.lt_size e))) (Heap.get?_push_of_some _ (hH2 ▸ Heap.get?_push_of_some _ e))
  have hacc:h₁.get? s2.heap.objs.size=some { cls:=.type "list",dict:=none,data:=.seq ([]:List Value).toArray }:=hsb₁.extBut _ _ (by rw [hC];exact Nat.ne_of_lt (Nat.lt_succ_self _)) (Heap.get?_push_of_some _ (hH2 ▸ Heap.get?_push_size _ rfl))
  have nC:s2.heap.get? hp2.objs.size=none:=by
    cases q:s2.heap.get? hp2.objs.size with
    | none=>rfl
    | some o=>exact absurd (Nat.lt_trans (Nat.lt_succ_self _) (hC ▸ Heap.lt_size q)) (Nat.lt_irrefl _)
  have stkM:∀ b,b ∈ frs X.stack→b=X.env.locals ∨ b ∈ X.fs:=fun b hb=>List.mem_cons.mp (I2.stkSub b hb)
  have ltO:∀ {b o},s2.heap.get? b=some o→b ≠ s2.heap.objs.size∧b ≠ hp2.objs.size:=fun e=>⟨Nat.ne_of_lt (Heap.lt_size e),by rw [hC];exact Nat.ne_of_lt (Nat.lt_succ_of_lt (Heap.lt_size e))⟩
  have okY:(X.blk sc hp2.objs.size s2 H2 (X.pn ++ pins) fp NB).Ok:=by
    refine ⟨I2.ok.mod,?_,I2.ok.glob,I2.ok.blt,?_,fun x y c h1 h2=>I2.ok.inj x y c (hclm _ _ h1) (hclm _ _ h2),fun x hx=>?_,fun x c h=>?_,I2.ok.hd,I2.ok.frames,.inl rfl,fun b hb=>?_,I2.bs,Nat.le_trans I2.ok.bsz I2.sz,fun b o e hb=>?_,fun b hb hm=>?_,I2.stack,I2.stkFree⟩
    · show (relabel sc X.env).kind = .function
      exact S.kind
    · show s2.heap.objs.size≤hp2.objs.size
      rw [hC]
      exact Nat.le_succ _
    · have hx':∃ k,((relabel sc X.env).names.lookup x=some k)∧(k = .cell ∨ k = .free):=hx.elim (fun z=>⟨_,z,.inl rfl⟩) fun z=>⟨_,z,.inr rfl⟩
      obtain ⟨k,hk,hkk⟩:=hx'
      obtain ⟨k0,e0,r0⟩:=lookup_relabel hk
      have hfree:k0 = .free:=by
        have m0:=mem_of_lk e0
        have nc:=S.nocell _ m0
        rcases r0 with r0 | ⟨r0,_⟩
        · subst r0
          rcases hkk with z | z
          · exact absurd z nc
          · exact z
        · exact r0
      subst hfree
      have z:=clOf_has (env:=X.env) (acc:=[]) (mem_of_lk e0)
      exact Option.isSome_iff_exists.mp z
    · cases h
    · obtain ⟨f0,f1,f3,f4,f5,f6⟩:=f2 b hb
      obtain ⟨o,eo,_⟩:=T.obj 0 s2.heap st2 b hb
      exact ⟨(ltO eo).2,fun x c e=>f5 x c (hclm x c e)⟩
    · obtain ⟨f0,f1,f3,f4,f5,f6⟩:=f2 b hb
      rcases f4 with z | z
      · exact I2.ok.noex b o e z
      · exact absurd (Nat.lt_of_lt_of_le (Heap.lt_size e) (Nat.le_trans I2.ok.bsz z)) (Nat.lt_irrefl _)
    · obtain ⟨f0,f1,f3,f4,f5,f6⟩:=f2 b hb
      rcases stkM b hm with z | z
      · exact f1 z
      · exact f3 z
  have IY:Inv (X.blk sc hp2.objs.size s2 H2 (X.pn ++ pins) fp NB) [] (σ ++ List.replicate ts.length none) (upd H2 s2.heap.objs.size (.lst [])) { s2 with heap:=h₁,toks:=s2.toks + ([]:List (Str × Value)).length }:=by
    refine ⟨okY,rfl,I2.bare,Un.laid old (Nat.le_refl _) fa,⟨_,hns₁,fun i x v e1 e2 e3=>?_⟩,fun x c e=>?_,?_,fun x c e=>?_,fun p hp=>?_,?_,?_⟩
    · have hiN:i < N.length:=by
        by_cases z:i < N.length
        · exact z
        · rw [List.getElem?_append_right (by omega),List.getElem?_replicate] at e2
          split at e2 <;> cases e2
      rw [List.getElem?_append_left (by omega)] at e2
      have e3':∃ k,(relabel sc X.env).names.lookup x=some k:=e3.elim (fun z=>⟨_,z⟩) fun z=>z.elim (fun z=>⟨_,z⟩) fun z=>⟨_,z⟩
      obtain ⟨k,hk⟩:=e3'
      obtain ⟨k0,e0,r0⟩:=lookup_relabel hk
      have m0:=mem_of_lk e0
      have hfree:k0 = .free:=by
        have nl:=S.locN i x hiN e1
        have nc:=S.nocell _ m0
        have kk:k = .local ∨ k = .cell ∨ k = .free:=by
          rcases e3 with z | z | z
          · exact .inl (Option.some.inj (hk.symm.trans z))
          · exact .inr (.inl (Option.some.inj (hk.symm.trans z)))
          · exact .inr (.inr (Option.some.inj (hk.symm.trans z)))
        rcases r0 with r0 | ⟨r0,_⟩
        · subst r0
          rcases kk with z | z | z
          · exact absurd (by rw [e0,z]) nl
          · exact absurd z nc
          · exact z
        · exact r0
      subst hfree
      have eN:=S.same i x hiN e1 e0
      have hkX:=S.free _ m0 rfl
      have kX:X.env.kindOf x=some .cell ∨ X.env.kindOf x=some .free:=by
        show X.env.scope.names.lookup x=some .cell ∨ X.env.scope.names.lookup x=some .free
        rw [hsc]
        exact hkX
      obtain ⟨m,hn,hl⟩:=I2.loc
      obtain ⟨u,ru,lk⟩:=hl i x v (by rw [hXN];exact eN) e2 (.inr kX)
      refine ⟨u,ru,.inr ⟨?_,?_⟩⟩
      · rcases r0 with r0 | ⟨_,r0⟩
        · exact .inr (by show (relabel sc X.env).names.lookup x=some .free;rw [hk,← r0])
        · exact .inl (by show (relabel sc X.env).names.lookup x=some .cell;rw [hk,r0])
      · obtain ⟨c,hcl⟩:=Option.isSome_iff_exists.mp (clOf_has (env:=X.env) (acc:=[]) m0)
        refine ⟨c,hcl,?_⟩
        rcases lk with ⟨z,_⟩ | ⟨_,c',ec,z⟩
        · rcases kX with k | k
          · rw [z] at k;cases k
          · rw [z] at k;cases k
        · have z2:=hclm x c hcl
          rw [ec] at z2
          cases z2
          exact z.keeps old
    · obtain ⟨v,z⟩:=I2.cell x c (hclm x c e)
      exact ⟨v,z.keeps old⟩
    · show upd H2 s2.heap.objs.size (.lst []) hp2.objs.size=none
      rw [upd_ne (by rw [hC];exact Nat.ne_of_gt (Nat.lt_succ_self _))]
      exact I2.hok.fresh (by rw [hC];exact Nat.le_succ _)
    · obtain ⟨v,z⟩:=I2.cell x c (hclm x c e)
      rw [upd_ne (Nat.ne_of_lt z.lt)]
      exact I2.freeC x c (hclm x c e)
    · obtain ⟨e,n,ne,nf,d⟩:=I2.pin p (by simpa using hp)
      refine ⟨old _ _ e,by rw [upd_ne (ltO e).1];exact n,(ltO e).2,fun hm=>?_,d⟩
      rcases stkM _ hm with z | z
      · exact ne z
      · exact nf z
    · exact I2.hok.laid old (Nat.le_refl _) ⟨Nat.zero_le _,[],0,.nil,hacc⟩
    · show (σ ++ List.replicate ts.length none).length=NB.length
      rw [List.length_append,List.length_replicate,hσ,S.len]
  have stat:∀ {H':Hp},(∀ b ∈ fp,H' b=none)→∀ b ∈ fp,FpOk (X.blk sc hp2.objs.size s2 H2 (X.pn ++ pins) fp NB) [] H' b:=fun hn b hb=>by
    obtain ⟨f0,f1,f3,f4,f5,f6⟩:=f2 b hb
    obtain ⟨o,eo,_⟩:=T.obj 0 s2.heap st2 b hb
    exact ⟨hn b hb,(ltO eo).2,fun hm=>(stkM b hm).elim f1 f3,.inl hb,fun x c e=>f5 x c (hclm x c e),fun p hp=>f6 p (by simpa using hp)⟩
  have fpn:∀ b ∈ fp,upd H2 s2.heap.objs.size (.lst []) b=none:=fun b hb=>by
    obtain ⟨o,eo,_⟩:=T.obj 0 s2.heap st2 b hb
    rw [upd_ne (ltO eo).1]
    exact (f2 b hb).1
  have loop:codeAny (model X.prog X.w) X.A (.compLoop (.ListComp elt [⟨tg,iter,ifs,0⟩] sc pos) 0 (.ref it) (.ref s2.heap.objs.size) (compEnvC sc (clOf X.env sc.names []) hp2.objs.size X.env))
      (compPost (model X.prog X.w) X.A X.xe none (EP X pins σ Q) (.ref s2.heap.objs.size) hp2.objs.size) { s2 with heap:=h₁,toks:=s2.toks + ([]:List (Str × Value)).length }:=by
    refine comp_loop (fun n s'=>∃ i ys tl H',tl.length=ts.length∧Inv (X.blk sc hp2.objs.size s2 H2 (X.pn ++ pins) fp NB) [] (σ ++ tl) H' s'∧tn i s'.heap∧(∀ b ∈ fp,H' b=none)∧W i n ys H') ?_ m0
      ⟨0,[],List.replicate ts.length none,_,by simp,IY,T.keep _ _ _ st2 (fun b hb o e=>old b o e),fpn,w0⟩
    rintro n s3 ⟨i,ys,tl,H3,htl,I3,st3,fr3,w3⟩
    rcases turn i n ys H3 w3 with ⟨stop,qn⟩ | ⟨go,step⟩
    · refine thn (T.done (X.blk sc hp2.objs.size s2 H2 (X.pn ++ pins) fp NB) rfl rfl rfl hc i [] s3 _ H3 _ I3 (stat fr3) st3 stop) fun r s4 ⟨hr,I4⟩=>?_
      subst hr
      obtain ⟨m,hn,_⟩:=id I4.loc
      refine ⟨m,hn,fun h' hsb=>?_⟩
      refine ⟨.ref s2.heap.objs.size,H3,?_,rfl,qn⟩
      refine I2.call' (s':={ s4 with heap:=h' }) (ch:=fp) I4.os (I4.base.same hsb nC) (I4.hok.same hsb I4.free) I4.bare fun b hb=>?_
      obtain ⟨f0,f1,f3,f4,f5,f6⟩:=f2 b hb
      exact ⟨f4,f1,f5,f6⟩
    · refine thn (T.item (X.blk sc hp2.objs.size s2 H2 (X.pn ++ pins) fp NB) rfl rfl rfl hc i [] s3 _ H3 _ I3 (stat fr3) st3 go) fun r s4 ⟨u,hr,h4⟩=>?_
      subst hr
      refine thn h4 fun _ s5 zz=>?_
      obtain ⟨x,H5,I5,r5,y5,st5,fr5⟩:=zz
      have I5':=I5.pinned (stat fr5) (T.obj _ _ st5)
      have again:∀ {H7:Hp}{s7:Shared}{xs:List V}{ys':List V}{m':Nat},xs.length=ts.length→Inv (X.blk sc hp2.objs.size s2 H2 (X.pn ++ pins) fp NB) ([] ++ pinsAt fp s5.heap) (σ ++ xs.map some) H7 s7→m' < n→W (i + 1) m' ys' H7 →
          ∃ m,m < n∧∃ i ys tl H',tl.length=ts.length∧Inv (X.blk sc hp2.objs.size s2 H2 (X.pn ++ pins) fp NB) [] (σ ++ tl) H' s7∧tn i s7.heap∧(∀ b ∈ fp,H' b=none)∧W i m ys H':=fun {H7 s7 xs ys' m'} hxs I7 hm w7=>by
        refine ⟨m',hm,i + 1,ys',xs.map some,H7,by rw [List.length_map];exact hxs,I7.unpinned,T.keep _ _ _ st5 fun b hb o e=>(I7.pin (b,o) (List.mem_append_right _ (List.mem_append_right _ (mem_pinsAt hb e)))).1,fun b hb=>?_,w7⟩
        obtain ⟨o,e,d⟩:=T.obj _ _ st5 b hb
        exact (I7.pin (b,o) (List.mem_append_right _ (List.mem_append_right _ (mem_pinsAt hb e)))).2.1
      refine thn (hg _ _ _ _ _ _ s5 (σ ++ tl) H5 x u _ I5' r5 (ht σ tl x H5 _ hσ htl (step x H5 y5))) fun _ s6 zz=>?_
      obtain ⟨σ6,H6,I6,xs,hxs,e6,e7,q6⟩:=zz
      subst e6 e7
      refine thn (hf _ _ _ _ _ _ s6 _ _ _ I6 q6) fun b s7 zz=>?_
      obtain ⟨H7,I7,q7⟩:=zz
      cases b with
      | false =>
        obtain ⟨m',hm,w7⟩:=q7
        exact again hxs I7 hm w7
      | true =>
        refine thn (he _ _ _ _ _ _ s7 _ _ _ I7 q7) fun y s8 zz=>?_
        obtain ⟨v,H8,I8,r8,e8,l8,m',hm,w8⟩:=zz
        refine thn (mt_append (X:=X.blk sc hp2.objs.size s2 H2 (X.pn ++ pins) fp NB) _ s8 _ H8 (.ref s2.heap.objs.size) [v] (.ref s2.heap.objs.size) [y] (fun z H9=>z = .non∧H9=upd H8 s2.heap.objs.size (.lst (ys ++ [v]))) I8 rfl (.cons r8 .nil) ⟨_,ys,v,rfl,rfl,e8,l8,rfl,rfl⟩) fun z s9 zz=>?_
        obtain ⟨v9,H9,I9,r9,e9,e10⟩:=zz
        subst e10
        exact again hxs I9 hm w8
  exact codeAny_compStart_list loop (T.self X.A 0 _ _ _ (T.keep _ _ _ st2 fun b hb o e=>old b o e) loop)
end L2

set_option Elab.async false
set_option linter.all false
set_option maxRecDepth 100000
set_option maxHeartbeats 4000000
/-! Own rules over the hand layer, part 4: sum, all, max of tuples, == of lists, f-strings. -/
namespace L2
open PySem PySem.Spec PyProof.Rows
section
variable {X:Cx}
theorem call_sumL (hc:X.calm=true):CallR X (.builtin "sum") (fun xs H Q=>∃ (p:Addr) (ns:List Int),xs = [.ref p]∧SqL X.K H p (ns.map V.int)∧Q (.int ns.sum) H):=by
  intro pins s σ H xs us Q I r h
  obtain ⟨p,ns,rfl,hp,q⟩:=h
  obtain ⟨u,rfl,ru⟩:=vals1 r
  cases ru
  obtain ⟨its,rv,pl,hz⟩:=I.list hp
  have hi:=intsAre_of rv
  have hl:=pl.isList
  obtain ⟨xs,e⟩:=hi.allInts.items
  have hns:ns=xs.toList.map (·.1):=by
    rw [← hi.numsOf,← nums_intItems,← e]
  rw [e] at hl
  refine sum_intListG (I.ok.hd hc) hl fun h' tk t' hk=>⟨.int ns.sum,H,I.kept hk,⟨t',?_⟩,q⟩
  rw [preSum_eq,List.take_of_length_le (by simp),← hns]
theorem all_range (bs:List Bool):(List.range bs.length).all (fun i=>bs.getD i false)=bs.all id:=by
  induction bs with
  | nil=>rfl
  | cons b r ih =>
    rw [List.length_cons,List.range_succ_eq_map,List.all_cons,List.all_map,List.all_cons,← ih]
    rfl
theorem call_allL (hc:X.calm=true):CallR X (.builtin "all") (fun xs H Q=>∃ (p:Addr) (bs:List Bool),xs = [.ref p]∧SqL X.K H p (bs.map V.bl)∧Q (.bl (bs.all id)) H):=by
  intro pins s σ H xs us Q I r h
  obtain ⟨p,bs,rfl,hp,q⟩:=h
  obtain ⟨u,rfl,ru⟩:=vals1 r
  cases ru
  obtain ⟨its,rv,pl,hz⟩:=I.list hp
  have hl:=pl.isList
  have hlt:p < s.heap.objs.size:=by obtain ⟨_,e,_⟩:=hl;exact Heap.lt_size e
  have hlen:its.length=bs.length:=by have:=rv.length;rw [List.length_map] at this;omega
  refine call_all_walk (wpAny_pyIter_list hl ?_)
  refine ⟨s.heap.objs.size,_,_,_,_,_,fun i=>bs.getD i false,rfl,Walks.list (A:=X.A.in1) (I.ok.hd hc) s.heap.objs.size p (Nat.ne_of_lt hlt) its.toArray,⟨⟨_,Heap.get?_push_size _ rfl,rfl,rfl⟩,hl.push _⟩,?_,?_⟩
  · intro i v s1 Q1 E1 hv hq
    have hv':its[i]?=some v:=by simpa using hv
    have hi:i < bs.length:=by have:=(List.getElem?_eq_some_iff.mp hv').1;omega
    have hb:(bs.map V.bl)[i]?=some (.bl bs[i]):=by rw [List.getElem?_map,List.getElem?_eq_getElem hi];rfl
    obtain ⟨u,hu,ru⟩:=rv.get hb
    rw [hv'] at hu
    cases hu
    cases (show v=Value.bool bs[i] from ru)
    have e:bs.getD i false=bs[i]:=by rw [List.getD_eq_getElem?_getD,List.getElem?_eq_getElem hi];rfl
    have hq':Q1 bs[i] s1:=by rw [← e];exact hq
    exact wpAny_truthy_bool hq'
  · intro h' tk hk
    refine ⟨.bl (bs.all id),H,I.kept (t':=tk) fun b o e=>hk b o (fun hm=>absurd (List.mem_singleton.mp hm) (Nat.ne_of_lt (Heap.lt_size e))) (Heap.get?_push_of_some _ e),?_,q⟩
    rw [List.size_toArray,hlen,all_range]
    rfl
theorem call_maxT (hc:X.calm=true) (hu:X.A.units + 1 < cLine):CallR X (.builtin "max") (fun xs H Q=>∃ (p:Addr) (rs:List Addr) (nss:List (List Int)),xs = [.ref p]∧SqL X.K H p (rs.map V.ref)∧rs.length=nss.length∧0 < rs.length ∧
    (∀ (i:Nat) r,rs[i]?=some r→SqT X.K H r ((nss.getD i []).map V.int))∧∀ r,rs[argBest (fun i j=>gtL (nss.getD i []) (nss.getD j [])) (rs.length - 1)]?=some r→Q (.ref r) H):=by
  intro pins s σ H xs us Q I r h
  obtain ⟨p,rs,nss,rfl,hp,hln,hne,ht,q⟩:=h
  obtain ⟨u,rfl,ru⟩:=vals1 r
  cases ru
  obtain ⟨its,rv,pl,hz⟩:=I.list hp
  have hlen:its.length=rs.length:=by have:=rv.length;rw [List.length_map] at this;omega
  have at_:∀ (i:Nat) v,its[i]?=some v→∃ r,rs[i]?=some r∧v = .ref r:=fun i v hv=>by
    have hi:i < rs.length:=by have:=(List.getElem?_eq_some_iff.mp hv).1;omega
    have hb:(rs.map V.ref)[i]?=some (.ref rs[i]):=by rw [List.getElem?_map,List.getElem?_eq_getElem hi];rfl
    obtain ⟨u,hu,ru⟩:=rv.get hb
    rw [hv] at hu
    cases hu
    exact ⟨rs[i],List.getElem?_eq_getElem hi,ru⟩
  refine max_tups (nss:=nss) (I.ok.hd hc) hu pl.isList (by omega) (by omega) (fun i v hv=>?_) fun v h' tk hv hk=>?_
  · obtain ⟨r,hr,rfl⟩:=at_ i v hv
    obtain ⟨vs,rvs,tp,_⟩:=I.tuple (ht i r hr)
    exact ⟨r,vs.toArray,rfl,tp,intsAre_of (by simpa using rvs)⟩
  · obtain ⟨r,hr,rfl⟩:=at_ _ v hv
    refine ⟨.ref r,H,I.kept (t':=tk) hk,rfl,q r ?_⟩
    rw [hlen] at hr
    exact hr
end

/-! ### == and != of two lists: flat items, or the very same objects -/
noncomputable def okP:V→V→Bool
  | .ref a,.ref b=>a == b
  | x,y=>flatV x && flatV y
noncomputable def resP:V→V→Bool
  | .ref _,.ref _=>true
  | x,y=>eqV x y
noncomputable def okVs:List V→List V→Bool
  | x :: xs,y :: ys=>okP x y && okVs xs ys
  | _,_=>true
noncomputable def eqVs:List V→List V→Bool
  | [],[]=>true
  | x :: xs,y :: ys=>resP x y && eqVs xs ys
  | _,_=>false
theorem okVs_at:∀ {xs ys:List V}{i:Nat}{x y:V},okVs xs ys=true→xs[i]?=some x→ys[i]?=some y→okP x y=true
  | [],_,i,_,_,_,h,_=>by simp at h
  | _ :: _,[],i,_,_,_,_,h=>by simp at h
  | _ :: _,_ :: _,0,_,_,h,h1,h2=>by
    simp at h1 h2
    subst h1 h2
    unfold okVs at h
    exact (Bool.and_eq_true_iff.mp h).1
  | _ :: xs,_ :: ys,i + 1,_,_,h,h1,h2=>by
    unfold okVs at h
    exact okVs_at (i:=i) (Bool.and_eq_true_iff.mp h).2 (by simpa using h1) (by simpa using h2)
theorem eqVs_range:∀ {xs ys:List V},xs.length=ys.length→(List.range xs.length).all (fun i=>resP (xs.getD i .non) (ys.getD i .non))=eqVs xs ys
  | [],[],_=>rfl
  | x :: xs,y :: ys,h=>by
    have ih:=eqVs_range (xs:=xs) (ys:=ys) (by simpa using h)
    rw [List.length_cons,List.range_succ_eq_map,List.all_cons,List.all_map]
    show (resP x y && _)=(resP x y && eqVs xs ys)
    rw [← ih]
    rfl
theorem eqVs_len:∀ {xs ys:List V},xs.length ≠ ys.length→eqVs xs ys=false
  | [],[],h=>absurd rfl h
  | [],_ :: _,_=>rfl
  | _ :: _,[],_=>rfl
  | x :: xs,y :: ys,h=>by
    show (resP x y && eqVs xs ys)=false
    rw [eqVs_len (xs:=xs) (ys:=ys) (by simpa using h),Bool.and_false]
theorem eqP_at {A:Around}{s:Shared}{x y:V}{u v:Value} (rx:RelV x u) (ry:RelV y v) (h:okP x y=true):SeqAt.EqAt A s u v (resP x y):=by
  by_cases hr:∃ a b,x = .ref a∧y = .ref b
  · obtain ⟨a,b,rfl,rfl⟩:=hr
    have e:a=b:=beq_iff_eq.mp h
    subst e
    cases (show u=Value.ref a from rx)
    cases (show v=Value.ref a from ry)
    exact SeqAt.EqAt.same _
  · have h1:okP x y=(flatV x && flatV y):=by
      cases x <;> cases y <;> first | rfl | exact absurd ⟨_,_,rfl,rfl⟩ hr
    have h2:resP x y=eqV x y:=by
      cases x <;> cases y <;> first | rfl | exact absurd ⟨_,_,rfl,rfl⟩ hr
    rw [h1] at h
    have hf:=Bool.and_eq_true_iff.mp h
    rw [h2]
    exact eqAt_V rx ry hf.1 hf.2
noncomputable def rEqL (K:PySem.W.Frag) (neg:Bool):R2:=fun x y H Q=>∃ a b xs ys,x = .ref a∧y = .ref b∧SqL K H a xs∧SqL K H b ys∧okVs xs ys=true∧Q (.bl (if neg then !eqVs xs ys else eqVs xs ys)) H
section
variable {X:Cx}
theorem op_eq_list (hu:X.A.units < cLine):OpR X (compareOp .Eq) (rEqL X.K false):=by
  intro pins s σ H x y v u Q I rx ry h
  obtain ⟨a,b,xs,ys,rfl,rfl,ha,hb,ok,q⟩:=h
  cases (show v=Value.ref a from rx)
  cases (show u=Value.ref b from ry)
  obtain ⟨is1,r1,p1,z1⟩:=I.list ha
  obtain ⟨is2,r2,p2,z2⟩:=I.list hb
  have l1:=r1.length
  have l2:=r2.length
  by_cases hl:xs.length=ys.length
  · refine SeqAt.eq_listAt (e:=fun i=>resP (xs.getD i .non) (ys.getD i .non)) p1.isList p2.isList (by simp;omega) hu (fun j h1 h2=>?_) ⟨.bl (eqVs xs ys),H,I,?_,q⟩
    · have j1:j < xs.length:=by simp at h1;omega
      have j2:j < ys.length:=by omega
      obtain ⟨u1,e1,w1⟩:=r1.get (List.getElem?_eq_getElem j1)
      obtain ⟨u2,e2,w2⟩:=r2.get (List.getElem?_eq_getElem j2)
      have g1:xs.getD j .non=xs[j]:=by rw [List.getD_eq_getElem?_getD,List.getElem?_eq_getElem j1];rfl
      have g2:ys.getD j .non=ys[j]:=by rw [List.getD_eq_getElem?_getD,List.getElem?_eq_getElem j2];rfl
      have k1:is1.toArray[j]=u1:=by
        have:=(List.getElem?_eq_some_iff.mp e1).2
        simpa using this
      have k2:is2.toArray[j]=u2:=by
        have:=(List.getElem?_eq_some_iff.mp e2).2
        simpa using this
      rw [k1,k2,g1,g2]
      exact eqP_at w1 w2 (okVs_at ok (List.getElem?_eq_getElem j1) (List.getElem?_eq_getElem j2))
    · rw [List.size_toArray,← l1,eqVs_range hl]
      rfl
  · refine SeqAt.eq_list_lengthsAt p1.isList p2.isList (by simp;omega) hu ⟨.bl false,H,I,rfl,?_⟩
    rw [if_neg (by decide),eqVs_len hl] at q
    exact q
theorem op_ne_list (hu:X.A.units < cLine):OpR X (compareOp .NotEq) (rEqL X.K true):=by
  intro pins s σ H x y v u Q I rx ry h
  obtain ⟨a,b,xs,ys,rfl,rfl,ha,hb,ok,q⟩:=h
  cases (show v=Value.ref a from rx)
  cases (show u=Value.ref b from ry)
  obtain ⟨is1,r1,p1,z1⟩:=I.list ha
  obtain ⟨is2,r2,p2,z2⟩:=I.list hb
  have l1:=r1.length
  have l2:=r2.length
  by_cases hl:xs.length=ys.length
  · refine EqBoolInt.of_rcne (SeqAt.RcNeAt.lists (e:=fun i=>resP (xs.getD i .non) (ys.getD i .non)) p1.isList p2.isList (by simp;omega) hu (fun j h1 h2=>?_)) ⟨.bl (!eqVs xs ys),H,I,?_,q⟩
    · have j1:j < xs.length:=by simp at h1;omega
      have j2:j < ys.length:=by omega
      obtain ⟨u1,e1,w1⟩:=r1.get (List.getElem?_eq_getElem j1)
      obtain ⟨u2,e2,w2⟩:=r2.get (List.getElem?_eq_getElem j2)
      have g1:xs.getD j .non=xs[j]:=by rw [List.getD_eq_getElem?_getD,List.getElem?_eq_getElem j1];rfl
      have g2:ys.getD j .non=ys[j]:=by rw [List.getD_eq_getElem?_getD,List.getElem?_eq_getElem j2];rfl
      have k1:is1.toArray[j]=u1:=by
        have:=(List.getElem?_eq_some_iff.mp e1).2
        simpa using this
      have k2:is2.toArray[j]=u2:=by
        have:=(List.getElem?_eq_some_iff.mp e2).2
        simpa using this
      rw [k1,k2,g1,g2]
      exact eqP_at w1 w2 (okVs_at ok (List.getElem?_eq_getElem j1) (List.getElem?_eq_getElem j2))
    · rw [List.size_toArray,← l1,eqVs_range hl]
      rfl
  · refine EqBoolInt.of_rcne (SeqAt.RcNeAt.lists_lengths p1.isList p2.isList (by simp;omega) hu) ⟨.bl true,H,I,rfl,?_⟩
    rw [if_pos rfl,eqVs_len hl] at q
    exact q
end

/-! ### f-strings whose text is not asked for -/
noncomputable def PJs (X:Cx) (es:List Expr) (t:St→Hp→(Hp→Prop)→Prop):Prop:=
  ∀ (pins:List (Addr × Obj)) (s:Shared) (σ:St) (H:Hp) (Q:Hp→Prop) (out:Str),Inv X pins σ H s→out.length + es.length * 100000≤sizeLine→t σ H Q →
    wpAny (model X.prog X.w) X.A (joinParts out (evalEach es X.env)) (fun u s'=>∃ z H',RelV (.str z) u∧Inv X pins σ H' s'∧Q H') X.xe s
section
variable {X:Cx}{e e1 e2:Expr}{es:List Expr}{te:TE}{t:St→Hp→(Hp→Prop)→Prop}{pos:Pos}
theorem pj_nil:PJs X [] (fun _ H Q=>Q H):=fun pins s σ H Q out I hz h=>joinParts_nil ⟨out,H,⟨_,rfl⟩,I.tok _,h⟩ (by simp at hz;exact hz)
theorem pj_cons (he:PE X e te) (hr:PJs X es t):PJs X (e :: es) (fun σ H Q=>te σ H fun v H1=>∃ z,v = .str z∧z.length≤100000∧t σ H1 Q):=by
  intro pins s σ H Q out I hz h
  rw [List.length_cons] at hz
  refine joinParts_cons (thn (he pins s σ H _ I h) fun u s1 zz=>?_)
  obtain ⟨v,H1,I1,r,z,e,hl,q⟩:=zz
  subst e
  obtain ⟨tk,rfl⟩:=r
  have ha:(out ++ z).length=out.length + z.length:=strLen_append ..
  exact ⟨by omega,hr pins s1 σ H1 Q (out ++ z) I1 (by omega) q⟩
theorem pe_join (h:PJs X (e1 :: e2 :: es) t) (hz:(e1 :: e2 :: es).length * 100000≤sizeLine:=by decide):PE X (.JoinedStr (e1 :: e2 :: es) pos) (fun σ H Q=>t σ H fun H1=>∀ z,Q (.str z) H1):=by
  intro pins s σ H Q I hq
  refine JoinedStr_many (thn (h pins s σ H _ Str.empty I (by show 0 + _≤_;omega) hq) fun u s1 zz=>?_)
  obtain ⟨z,H1,r,I1,q⟩:=zz
  exact ⟨.str z,H1,I1,r,q z⟩
theorem pe_fmtI (he:PE X e te):PE X (.FormattedValue e (-1) none pos) (fun σ H Q=>te σ H fun v H1=>∃ i,v = .int i∧-(2 ^ 64) < i∧i < 2 ^ 64∧∀ z:Str,z.length≤100000→Q (.str z) H1):=by
  intro pins s σ H Q I h
  refine FormattedValue_plain (thn (he pins s σ H _ I h) fun u s1 zz=>?_)
  obtain ⟨v,H1,I1,r,i,e,h1,h2,q⟩:=zz
  subst e
  obtain ⟨tk,rfl⟩:=r
  have hlog:i.natAbs.log2 < 1920:=by
    have h3:i.natAbs < 2 ^ 64:=by omega
    by_cases h0:i.natAbs=0
    · rw [h0];decide
    · have:=(Nat.log2_lt h0).mpr h3
      omega
  exact formatField_int_small hlog ⟨.str _,H1,I1.tok _,⟨_,rfl⟩,q _ (Nat.le_trans (int_text_len_1921 hlog) (by decide))⟩
theorem pe_fmtS (he:PE X e te):PE X (.FormattedValue e (-1) none pos) (fun σ H Q=>te σ H fun v H1=>∃ z:Str,v = .str z∧z.length≤100000∧Q (.str z) H1):=by
  intro pins s σ H Q I h
  refine FormattedValue_plain (thn (he pins s σ H _ I h) fun u s1 zz=>?_)
  obtain ⟨v,H1,I1,r,z,e,h1,q⟩:=zz
  subst e
  obtain ⟨tk,rfl⟩:=r
  exact formatField_str (fun t' tk'=>⟨.str z,H1,I1.tok _,⟨_,rfl⟩,q⟩) (Nat.le_trans h1 (by decide))
end
end L2

set_option Elab.async false
set_option linter.all false
set_option maxRecDepth 100000
set_option maxHeartbeats 4000000
namespace L2
open PySem PySem.Spec PyProof.Rows

/-! ### other readings of the same rules -/
theorem PE.weak {X:Cx}{e:Expr}{t t':TE} (h:PE X e t) (w:∀ σ H Q,t' σ H Q→t σ H Q):PE X e t':=fun pins s σ H Q I q=>h pins s σ H Q I (w σ H Q q)
theorem PS.weak {X:Cx}{st:Stmt}{t t':TS} (h:PS X st t) (w:∀ D σ H,t' D σ H→t D σ H):PS X st t':=fun pins s σ H D I q=>h pins s σ H D I (w D σ H q)
theorem CallR.weak {X:Cx}{f:Value}{r r':List V→Hp→VK→Prop} (h:CallR X f r) (w:∀ xs H Q,r' xs H Q→r xs H Q):CallR X f r':=fun pins s σ H xs us Q I rl q=>h pins s σ H xs us Q I rl (w xs H Q q)
noncomputable def sFldC (C:Addr) (f:Str) (ta tv:TE):TS:=fun D σ H=>tv σ H fun y H1=>ta σ H1 fun x H2=>∃ a dx fs,x = .ref a∧H2 a=some (.ins C dx fs)∧fs.length < 1000∧D.nx σ (upd H2 a (.ins C dx (putF f y fs)))
section
variable {X:Cx}{o e value:Expr}{f:Str}{pos pos' tpos:Pos}{ta tv:TE}{C:Addr}
theorem ps_fldC (c:Cls X.K C) (n:NoAttr X.K C f) (ha:PE X o ta) (hv:PE X value tv) (hs:swapsWith value (some (.Attribute o f pos')) pos.line X.env=pure false:=by rfl):PS X (.Assign [.Attribute o f pos'] value pos) (sFldC C f ta tv):=
  (ps_fld (pe_cut ha) (pe_cut hv) hs).weak fun D σ H h=>⟨_,h,fun y H1 h1=>⟨_,h1,fun x H2 ⟨a,dx,fs,e1,e2,e3,q⟩=>⟨a,C,dx,fs,e1,e2,c,n,e3,q⟩⟩⟩
end

theorem pe_globI {X:Cx}{x:Str}{i:Int}{pos:Pos} (hg:Gl X x) (hm:∃ t,X.mg x=some (.int i t)) (hd:(x == ("__debug__" : Str))=false:=by decide):PE X (.Name x pos) (tC (.int i)):=by
  obtain ⟨t,hm⟩:=hm
  exact pe_glob hg hm ⟨t,rfl⟩ hd
noncomputable def tDGetS (k:Str) (td:TE):TE:=fun σ H Q=>td σ H fun x H1=>∃ a kvs v,x = .ref a∧H1 a=some (.dK kvs)∧valV kvs (Sum.inr k:Key)=some v∧Q v H1
noncomputable def sDPutS (k:Str) (td tv:TE):TS:=fun D σ H=>tv σ H fun v H1=>td σ H1 fun x H2=>∃ a kvs,x = .ref a∧H2 a=some (.dK kvs)∧kvs.length < sizeLine∧D.nx σ (upd H2 a (.dK (putK kvs (Sum.inr k:Key) v)))
section
variable {X:Cx}{o value:Expr}{k:Str}{j:Nat}{p pos pos':Pos}{td tv:TE}
theorem pe_dgetS (hu:X.A.units + 1 < cLine) (ho:PE X o td):PE X (.Subscript o (.Constant (.str k) j p) pos) (tDGetS k td):=
  (pe_dget hu (pe_cut ho) pe_str (fun _ _=>rfl)).weak fun σ H Q h=>⟨_,h,fun x H1 ⟨a,kvs,v,e1,e2,e3,q⟩=>⟨a,v,e1,e3 ▸ DGet.k (k:=Sum.inr k) e2,q⟩⟩
theorem ps_dputS (hu:X.A.units + 1 < cLine) (ho:PE X o td) (hv:PE X value tv) (hs:swapsWith value (some (.Subscript o (.Constant (.str k) j p) pos')) pos.line X.env=pure false:=by rfl) :
    PS X (.Assign [.Subscript o (.Constant (.str k) j p) pos'] value pos) (sDPutS k td tv):=
  (ps_dput hu (pe_cut ho) pe_str (pe_cut hv) hs).weak fun D σ H h=>⟨_,h,fun v H1 h1=>⟨_,h1,fun x H2 ⟨a,kvs,e1,e2,e3,q⟩=>⟨a,_,e1,DPut.k (k:=Sum.inr k) e2 e3,q⟩⟩⟩
end

/-! ### max, min as numbers -/
theorem max_if (i j:Int):(if j > i then j else i)=max i j:=by
  split <;> omega
theorem min_if (i j:Int):(if j < i then j else i)=min i j:=by
  split <;> omega
section
variable {X:Cx}
theorem call_max2m (hc:X.calm=true):CallR X (.builtin "max") (fun xs H Q=>∃ i j,xs = [.int i,.int j]∧Q (.int (max i j)) H):=
  (call_max2 hc).weak fun xs H Q ⟨i,j,e,q⟩=>⟨i,j,e,by rw [max_if];exact q⟩
theorem call_min2m (hc:X.calm=true):CallR X (.builtin "min") (fun xs H Q=>∃ i j,xs = [.int i,.int j]∧Q (.int (min i j)) H):=
  (call_min2 hc).weak fun xs H Q ⟨i,j,e,q⟩=>⟨i,j,e,by rw [min_if];exact q⟩
end

/-! ### more of heaps -/
theorem at_ne {H:Hp}{a b:Addr}{o x:HO} (h:b ≠ a) (e:H b=some x):upd H a o b=some x:=(upd_ne h).trans e
theorem at_new {H:Hp}{a p:Addr}{o x:HO} (n:H p=none) (e:H a=some x):upd H p o a=some x:=Same.new n o _ _ e
theorem at_same {H H':Hp}{a:Addr}{x:HO} (s:Same H H') (e:H a=some x):H' a=some x:=s _ _ e
theorem sl_at {K:PySem.W.Frag}{H:Hp}{a:Addr}{xs:List V} (e:H a=some (.lst xs)):SqL K H a xs:=SqL.of e
theorem sl_new {K:PySem.W.Frag}{H:Hp}{a p:Addr}{o:HO}{xs:List V} (n:H p=none) (e:SqL K H a xs):SqL K (upd H p o) a xs:=(Same.new n o).seq e
theorem sl_same {K:PySem.W.Frag}{H H':Hp}{a:Addr}{xs:List V} (s:Same H H') (e:SqL K H a xs):SqL K H' a xs:=s.seq e
theorem st_at {K:PySem.W.Frag}{H:Hp}{a:Addr}{xs:List V} (e:H a=some (.tup xs)):SqT K H a xs:=SqT.of e
theorem st_new {K:PySem.W.Frag}{H:Hp}{a p:Addr}{o:HO}{xs:List V} (n:H p=none) (e:SqT K H a xs):SqT K (upd H p o) a xs:=(Same.new n o).tup e
theorem st_same {K:PySem.W.Frag}{H H':Hp}{a:Addr}{xs:List V} (s:Same H H') (e:SqT K H a xs):SqT K H' a xs:=s.tup e
theorem Same.refl' {H:Hp}:Same H H:=fun _ _ h=>h
theorem Same.mut {H H2:Hp}{e:Addr}{o:HO} (s:Same H H2) (n:H e=none):Same H (upd H2 e o):=fun b u q=>by
  rw [upd_ne (ne_of_none q n)]
  exact s b u q
theorem SqL.updNe {K:PySem.W.Frag}{H:Hp}{a b:Addr}{o:HO}{xs:List V} (h:SqL K H a xs) (ne:a ≠ b):SqL K (upd H b o) a xs:=by
  rcases h with h | h
  · refine .inl ?_
    rcases h with h | ⟨ob,h⟩
    · exact .inl (by rw [upd_ne ne];exact h)
    · exact .inr ⟨ob,by rw [upd_ne ne];exact h⟩
  · exact .inr h
theorem sl_ne {K:PySem.W.Frag}{H:Hp}{a b:Addr}{o:HO}{xs:List V} (ne:a ≠ b) (h:SqL K H a xs):SqL K (upd H b o) a xs:=h.updNe ne
theorem SqT.updNe {K:PySem.W.Frag}{H:Hp}{a b:Addr}{o:HO}{xs:List V} (h:SqT K H a xs) (ne:a ≠ b):SqT K (upd H b o) a xs:=by
  rcases h with h | h
  · refine .inl ?_
    rcases h with h | ⟨ob,h⟩
    · exact .inl (by rw [upd_ne ne];exact h)
    · exact .inr ⟨ob,by rw [upd_ne ne];exact h⟩
  · exact .inr h
theorem st_ne {K:PySem.W.Frag}{H:Hp}{a b:Addr}{o:HO}{xs:List V} (ne:a ≠ b) (h:SqT K H a xs):SqT K (upd H b o) a xs:=h.updNe ne
theorem SqT.upd {K:PySem.W.Frag}{H:Hp}{a b:Addr}{o u:HO}{xs:List V} (h:SqT K H a xs) (e:H b=some u) (hu:Mut (some u)):SqT K (L2.upd H b o) a xs:=by
  rcases h with h | h
  · refine .inl ?_
    rcases h with h | ⟨ob,h⟩
    · refine .inl ?_
      rw [upd_ne ?_]
      · exact h
      · intro z
        subst z
        rw [e] at h
        cases h
        exact hu
    · refine .inr ⟨ob,?_⟩
      rw [upd_ne ?_]
      · exact h
      · intro z
        subst z
        rw [e] at h
        cases h
        exact hu
  · exact .inr h
end L2
namespace L2
open PySem PySem.Spec PyProof.Rows
theorem st_mut {K:PySem.W.Frag}{H:Hp}{a b:Addr}{o u:HO}{xs:List V} (e:H b=some u) (hu:Mut (some u)) (h:SqT K H a xs):SqT K (L2.upd H b o) a xs:=h.upd e hu
/-! ### an instance by a record of its attributes -/
structure Fld {α:Type} (toF:α→List (Str × V)) (f:Str) (g:α→V) (st:α→V→α):Prop where
  get:∀ r,(toF r).lookup f=some (g r)
  put:∀ r y,putF f y (toF r)=toF (st r y)
  few:∀ r,(toF r).length < 1000
noncomputable def tFldR {α:Type} (C:Addr) (toF:α→List (Str × V)) (g:α→V) (ta:TE):TE:=fun σ H Q=>ta σ H fun x H1=>∃ a dx r,x = .ref a∧H1 a=some (.ins C dx (toF r))∧Q (g r) H1
noncomputable def sFldR {α:Type} (C:Addr) (toF:α→List (Str × V)) (st:α→V→α) (ta tv:TE):TS:=fun D σ H=>tv σ H fun y H1=>ta σ H1 fun x H2=>∃ a dx r,x = .ref a∧H2 a=some (.ins C dx (toF r))∧D.nx σ (upd H2 a (.ins C dx (toF (st r y))))
noncomputable def sAugR {α:Type} (C:Addr) (toF:α→List (Str × V)) (g:α→V) (st:α→V→α) (ta tv:TE) (rd:V→V→Hp→VK→Prop):TS:=fun D σ H=>ta σ H fun x H1=>∃ a dx r,x = .ref a∧H1 a=some (.ins C dx (toF r)) ∧
  tv σ H1 fun y H2=>rd (g r) y H2 fun z H3=>∃ dx' r',H3 a=some (.ins C dx' (toF r'))∧D.nx σ (upd H3 a (.ins C dx' (toF (st r' z))))
section
variable {X:Cx}{o e value:Expr}{f:Str}{pos pos' tpos:Pos}{ta tv:TE}{C:Addr}{α:Type}{toF:α→List (Str × V)}{g:α→V}{st:α→V→α}
theorem pe_fldR (F:Fld toF f g st) (c:Cls X.K C) (n:NoAttr X.K C f) (he:PE X e ta) (hb:attributeBase e f X.env (eval e X.env)=eval e X.env:=by rfl):PE X (.Attribute e f pos) (tFldR C toF g ta):=
  (pe_fld (pe_cut he) hb).weak fun σ H Q h=>⟨_,h,fun x H1 ⟨a,dx,r,e1,e2,q⟩=>⟨a,C,dx,toF r,g r,e1,e2,c,n,F.get r,q⟩⟩
theorem ps_fldR (F:Fld toF f g st) (c:Cls X.K C) (n:NoAttr X.K C f) (ha:PE X o ta) (hv:PE X value tv) (hs:swapsWith value (some (.Attribute o f pos')) pos.line X.env=pure false:=by rfl):PS X (.Assign [.Attribute o f pos'] value pos) (sFldR C toF st ta tv):=
  (ps_fld (pe_cut ha) (pe_cut hv) hs).weak fun D σ H h=>⟨_,h,fun y H1 h1=>⟨_,h1,fun x H2 ⟨a,dx,r,e1,e2,q⟩=>⟨a,C,dx,toF r,e1,e2,c,n,F.few r,by rw [F.put];exact q⟩⟩⟩
theorem in_cut {op:Operator}{rd:V→V→Hp→VK→Prop} (h:InOp X op rd):InOp X op (fun x y H Q=>∃ P:VK,rd x y H P∧∀ v H',P v H'→Q v H'):=
  fun pins s σ H x y u v Q I rx ry ⟨P,q,w⟩=>thn (h pins s σ H x y u v P I rx ry q) fun _ _ ⟨v,H',I',r,z⟩=>⟨v,H',I',r,w _ _ z⟩
theorem ps_augR {op:Operator}{rd:V→V→Hp→VK→Prop} (F:Fld toF f g st) (c:Cls X.K C) (n:NoAttr X.K C f) (ha:PE X o ta) (hv:PE X value tv) (hop:InOp X op rd):PS X (.AugAssign (.Attribute o f tpos) op value pos) (sAugR C toF g st ta tv rd):=
  (ps_fldaug (pe_cut ha) (pe_cut hv) (in_cut hop)).weak fun D σ H h=>⟨_,h,fun x H1 ⟨a,dx,r,e1,e2,q⟩=>⟨a,C,dx,toF r,g r,e1,e2,c,n,F.get r,_,q,fun y H2 q2=>⟨_,q2,fun z H3 ⟨dx',r',e3,q3⟩=>⟨dx',toF r',e3,F.few r',by rw [F.put];exact q3⟩⟩⟩⟩
end

/-! ### a dict by a record of its items -/
structure Itm {α:Type} (toK:α→List (Key × V)) (k:Str) (g:α→V) (st:α→V→α):Prop where
  get:∀ r,valV (toK r) (Sum.inr k:Key)=some (g r)
  put:∀ r y,putK (toK r) (Sum.inr k:Key) y=toK (st r y)
  few:∀ r,(toK r).length < sizeLine
noncomputable def tItm {α:Type} (toK:α→List (Key × V)) (g:α→V) (td:TE):TE:=fun σ H Q=>td σ H fun x H1=>∃ a r,x = .ref a∧H1 a=some (.dK (toK r))∧Q (g r) H1
noncomputable def sItm {α:Type} (toK:α→List (Key × V)) (st:α→V→α) (td tv:TE):TS:=fun D σ H=>tv σ H fun v H1=>td σ H1 fun x H2=>∃ a r,x = .ref a∧H2 a=some (.dK (toK r))∧D.nx σ (upd H2 a (.dK (toK (st r v))))
section
variable {X:Cx}{o value:Expr}{k:Str}{j:Nat}{p pos pos':Pos}{td tv:TE}{α:Type}{toK:α→List (Key × V)}{g:α→V}{st:α→V→α}
theorem pe_itm (F:Itm toK k g st) (hu:X.A.units + 1 < cLine) (ho:PE X o td):PE X (.Subscript o (.Constant (.str k) j p) pos) (tItm toK g td):=
  (pe_dgetS hu (pe_cut ho)).weak fun σ H Q h=>⟨_,h,fun x H1 ⟨a,r,e1,e2,q⟩=>⟨a,toK r,g r,e1,e2,F.get r,q⟩⟩
theorem ps_itm (F:Itm toK k g st) (hu:X.A.units + 1 < cLine) (ho:PE X o td) (hv:PE X value tv) (hs:swapsWith value (some (.Subscript o (.Constant (.str k) j p) pos')) pos.line X.env=pure false:=by rfl) :
    PS X (.Assign [.Subscript o (.Constant (.str k) j p) pos'] value pos) (sItm toK st td tv):=
  (ps_dputS hu (pe_cut ho) (pe_cut hv) hs).weak fun D σ H h=>⟨_,h,fun v H1 h1=>⟨_,h1,fun x H2 ⟨a,r,e1,e2,q⟩=>⟨a,toK r,e1,e2,F.few r,by rw [F.put];exact q⟩⟩⟩
end
section
variable {X:Cx}
theorem call_min3m (hc:X.calm=true):CallR X (.builtin "min") (fun xs H Q=>∃ i j k,xs = [.int i,.int j,.int k]∧Q (.int (min (min i j) k)) H):=by
  intro pins s σ H xs us Q I r h
  obtain ⟨i,j,k,rfl,q⟩:=h
  cases r with
  | cons r1 r=>cases r with
    | cons r2 r=>cases r with
      | cons r3 r =>
        cases r
        obtain ⟨t1,rfl⟩:=r1
        obtain ⟨t2,rfl⟩:=r2
        obtain ⟨t3,rfl⟩:=r3
        refine min_three_ints (I.ok.hd hc) fun h' tk kk=>⟨_,H,I.kept kk,?_,q⟩
        split <;> split <;> exact ⟨_,congrArg (Value.int · _) (by omega)⟩
end
/-! ### an item of a written list -/
noncomputable def allInt:List V→Bool
  | []=>true
  | .int _ :: r=>allInt r
  | _ :: _=>false
noncomputable def intsOf:List V→List Int
  | []=>[]
  | .int i :: r=>i :: intsOf r
  | _ :: r=>0 :: intsOf r
theorem intsOf_map:∀ {xs:List V},allInt xs=true→xs=(intsOf xs).map V.int
  | [],_=>rfl
  | .int i :: r,h=>congrArg (V.int i :: ·) (intsOf_map (xs:=r) h)
  | .non :: _,h=>nomatch h
  | .bl _ :: _,h=>nomatch h
  | .str _ :: _,h=>nomatch h
  | .byt _ :: _,h=>nomatch h
  | .flt _ :: _,h=>nomatch h
  | .ref _ :: _,h=>nomatch h
  | .ty _ :: _,h=>nomatch h
theorem atI_in {α:Type}{xs:List α}{i:Int} (h0:0≤i) (h1:i < (xs.length:Int)):∃ v,v ∈ xs∧xs[i.toNat]?=some v∧atI xs i=some v:=by
  have hk:i.toNat < xs.length:=by omega
  refine ⟨xs[i.toNat],List.getElem_mem hk,List.getElem?_eq_getElem hk,?_⟩
  have q:atI xs ((i.toNat:Nat):Int)=some xs[i.toNat]:=atI_nat (List.getElem?_eq_getElem hk)
  have e:((i.toNat:Nat):Int)=i:=by omega
  rw [e] at q
  exact q
noncomputable def tMenuV (ta:TA) (tb:TE):TE:=fun σ H Q=>ta σ H fun xs H1=>xs.length≤sizeLine∧∀ H2,Same H1 H2→tb σ H2 fun y H3=>H3=H2∧∃ i,y = .int i∧(0≤i∧i < (xs.length:Int))∧∀ v,v ∈ xs→Q v H2
noncomputable def tMenu (ta:TA) (tb:TE):TE:=fun σ H Q=>ta σ H fun xs H1=>xs.length≤sizeLine∧∀ H2,Same H1 H2→tb σ H2 fun y H3=>H3=H2∧∃ i,y = .int i∧(0≤i∧i < (xs.length:Int))∧allInt xs=true∧∀ m,m ∈ intsOf xs→Q (.int m) H2
noncomputable def tMenuD (ta:TA) (tb:TE):TE:=fun σ H Q=>ta σ H fun xs H1=>xs.length≤sizeLine∧∀ H2,Same H1 H2→tb σ H2 fun y H3=>H3=H2∧∃ i,y = .int i∧(0≤i∧i < (xs.length:Int))∧allInt xs=true∧Q (.int ((intsOf xs).getD i.toNat 0)) H2
section
variable {X:Cx}{es:List Expr}{b:Expr}{pos lp:Pos}{ta:TA}{tb:TE}
theorem pa_cut (h:PA X es ta):PA X es (fun σ H Q=>∃ P:List V→Hp→Prop,ta σ H P∧∀ vs H',P vs H'→Q vs H'):=
  fun p pins s σ H Q I ⟨P,q,w⟩=>thn (h p pins s σ H P I q) fun _ _ ⟨v,H',I',r,z⟩=>⟨v,H',I',r,w _ _ z⟩
theorem pe_menuV (ha:PA X es ta) (hb:PE X b tb) (hs:PlainIx b:=by intro _ _;rfl):PE X (.Subscript (.List es lp) b pos) (tMenuV ta tb):=
  (pe_ix ix_list (pe_lst (pa_cut ha)) (pe_cut hb) hs).weak fun σ H Q h=>⟨_,h,fun xs H1 ⟨z,q⟩=>⟨z,fun p np=>⟨_,q _ (Same.new np _),fun y H3 ⟨e,i,ey,hi,qq⟩=>by
    obtain ⟨v,hv,_,av⟩:=atI_in hi.1 hi.2
    exact ⟨p,xs,i,v,rfl,ey,SqL.of (by rw [e];exact upd_same),av,by rw [e];exact qq v hv⟩⟩⟩⟩
theorem mem_ints {xs:List V}{v:V} (h:allInt xs=true) (hv:v ∈ xs):∃ m,v = .int m∧m ∈ intsOf xs:=by
  rw [intsOf_map h] at hv
  obtain ⟨m,hm,e⟩:=List.mem_map.mp hv
  exact ⟨m,e.symm,hm⟩
theorem pe_menu (ha:PA X es ta) (hb:PE X b tb) (hs:PlainIx b:=by intro _ _;rfl):PE X (.Subscript (.List es lp) b pos) (tMenu ta tb):=
  (pe_menuV (pa_cut ha) (pe_cut hb) hs).weak fun σ H Q h=>⟨_,h,fun xs H1 ⟨z,q⟩=>⟨z,fun H2 s2=>⟨_,q H2 s2,fun y H3 ⟨e,i,ey,hi,ai,qq⟩=>⟨e,i,ey,hi,fun v hv=>by
    obtain ⟨m,rfl,hm⟩:=mem_ints ai hv
    exact qq m hm⟩⟩⟩⟩
theorem pe_menuD (ha:PA X es ta) (hb:PE X b tb) (hs:PlainIx b:=by intro _ _;rfl):PE X (.Subscript (.List es lp) b pos) (tMenuD ta tb):=
  (pe_ix ix_list (pe_lst (pa_cut ha)) (pe_cut hb) hs).weak fun σ H Q h=>⟨_,h,fun xs H1 ⟨z,q⟩=>⟨z,fun p np=>⟨_,q _ (Same.new np _),fun y H3 ⟨e,i,ey,hi,ai,qq⟩=>by
    obtain ⟨v,hv,ev,av⟩:=atI_in hi.1 hi.2
    obtain ⟨m,rfl,hm⟩:=mem_ints ai hv
    have ew:(intsOf xs).getD i.toNat 0=m:=by
      have e2:((intsOf xs).map V.int)[i.toNat]?=some (.int m):=by rw [← intsOf_map ai];exact ev
      rw [List.getElem?_map] at e2
      rw [List.getD_eq_getElem?_getD]
      cases e3:(intsOf xs)[i.toNat]? with
      | none=>rw [e3] at e2;cases e2
      | some k=>rw [e3] at e2;exact V.int.inj (Option.some.inj e2)
    exact ⟨p,xs,i,.int m,rfl,ey,SqL.of (by rw [e];exact upd_same),av,by rw [e,← ew];exact qq⟩⟩⟩⟩
end
/-! ### within a comprehension: the part of the heap by its name -/
theorem ix_tupK {X:Cx}{K:PySem.W.Frag} (h:X.K=K):IxR X (rIxT K):=h ▸ ix_tup
theorem ix_listK {X:Cx}{K:PySem.W.Frag} (h:X.K=K):IxR X (rIxL K):=h ▸ ix_list
theorem refNon {a:Addr}:¬ V.ref a=V.non:=fun z=>by cases z
theorem intNon {i:Int}:¬ V.int i=V.non:=fun z=>by cases z
theorem strNon {x:Str}:¬ V.str x=V.non:=fun z=>by cases z
theorem blNon {b:Bool}:¬ V.bl b=V.non:=fun z=>by cases z
theorem strInt {x:Str}{i:Int}:¬ V.str x=V.int i:=fun z=>by cases z
theorem intStr {x:Str}{i:Int}:¬ V.int i=V.str x:=fun z=>by cases z
theorem nonInt {i:Int}:¬ V.non=V.int i:=fun z=>by cases z
theorem nonStr {x:Str}:¬ V.non=V.str x:=fun z=>by cases z
end L2

set_option Elab.async false
set_option linter.all false
set_option maxRecDepth 100000
set_option maxHeartbeats 4000000
namespace L2
open PySem PySem.Spec PySem.Calls PyProof.Rows PySem.W Builtin.ObjectAttr
section
variable {prog:Program}{w:World}{A:Around}{E:Value→Shared→Prop}{s:Shared}{K:PySem.W.Frag}{x D:Addr}{ox:Obj}{odo:Option Obj}
theorem findObj_dataO {C:Addr}{od:Option Obj}{name:Str}{a g:Value} (hc:(clsIn K C).isSome=true) (ha:findIn K (.ref C) name=some (some a)) (hg:specialIn K a "__get__"=some (some g)) (ht:takesIn K a=some true):findObj K C od name=some (.bind g a):=by
  obtain ⟨cd,hc⟩:=Option.isSome_iff_exists.mp hc
  unfold findObj
  rw [hc,Option.bind_some,ha,Option.bind_some]
  simp [hg,ht]
theorem bexc_check {Q:Unit→Shared→Prop}{tk:Tok}{name:Str} (X:K.In s.heap) (I:PySem.W.InstAt s.heap x ox D odo) (hm:mroIn K D (.type "BaseException")=some true) (h:Q () s) :
    wpAny (model prog w) A (checkBuiltinCall "BaseException.__getattribute__" ⟨[.ref x,.str name tk],[]⟩) Q E s:=by
  obtain ⟨hh,g,d,t,os⟩:=s
  have L0:=I.type (M:=model prog w)
  have L1:=looks_mroIn (M:=model prog w) X hm
  have LI:Looks (model prog w) hh (isInstance (.ref x) (.type "BaseException")) true:=L0.andThen L1
  have hsplit:splitId "BaseException.__getattribute__"=some ("BaseException", "__getattribute__"):=by decide +kernel
  have hk:builtinKind "BaseException.__getattribute__"=(Manifest.find? "BaseException").bind (·.attrs.lookup "__getattribute__"):=by simp only [builtinKind,hsplit]
  have hkk:(Manifest.find? "BaseException").bind (·.attrs.lookup "__getattribute__")=some .slot:=by decide +kernel
  have ha:=PySem.F.args_bexc_ga (.ref x) (.str name tk)
  simp only [checkBuiltinCall,hk,hkk,hsplit]
  refine wpAny_bind (LI.at ?_)
  simp only [Bool.not_true,Bool.false_eq_true,if_false]
  cases hsig:Manifest.signature? "BaseException.__getattribute__" with
  | none=>exact wpAny_pure h
  | some sig =>
    simp only [argsOk,hsig] at ha
    have h2:Bind.checkArgs "BaseException.__getattribute__" sig ⟨[.ref x,.str name tk],[]⟩=pure ():=ha
    show wpAny _ A (Bind.checkArgs _ sig _) Q E _
    rw [h2];exact wpAny_pure h
theorem bexc_class {Q:Option Value→Shared→Prop} (X:K.In s.heap) (I:PySem.W.InstAt s.heap x ox D odo)
    (hga:findIn K (.ref D) "__getattribute__"=some (some (.builtin "BaseException.__getattribute__"))) (hk:findIn K (.ref D) "__getattr__"=some none) (hb:mroIn K D (.type "BaseException")=some true)
    (hf:findObj K D odo "__class__"=some (.bind (.builtin "getset_descriptor.__get__") (.builtin "object.__class__"))) (hm:mroIn K D (.type "object")=some true)
    (h:Q (some (.ref D)) { s with toks:=s.toks + 1 }):wpAny (model prog w) A (getAttr? (.ref x) "__class__") Q E s:=by
  obtain ⟨hh,gg,d,t,os⟩:=s
  have L0:=I.type (M:=model prog w)
  have L1:=looks_findIn (M:=model prog w) X hga
  have L2:=looks_findIn (M:=model prog w) X hk
  have LF:=looks_find (M:=model prog w) X I hf
  unfold getAttr? getAttrBy? getAttrBy
  refine wpAny_bind (wpAny_mkText (wpAny_bind (wpAny_attempt (wpAny_holding (wpAny_bind (L0.at (wpAny_bind (L1.at ?_))))))))
  show wpAny _ _ (getAttrByItsOwn (.ref x) (.str "__class__" t) (.ref D) (.builtin "BaseException.__getattribute__") false false) _ _ _
  unfold getAttrByItsOwn
  refine wpAny_bind (m:=hookBefore (.ref D)) ?_
  show wpAny _ _ (typeLookup (.ref D) "__getattr__") _ _ _
  refine L2.at ?_
  refine wpAny_bind (wpAny_attempt ?_)
  refine wpAny_holding ?_
  show wpAny _ _ (boundAndCalled (.builtin "BaseException.__getattribute__") (.ref x) (.str "__class__" t)) _ _ _
  unfold boundAndCalled
  rw [PySem.F.excAttr_ValueError.ga.bind]
  refine wpAny_bind (wpAny_pure ?_)
  show wpAny _ _ (call (.builtin "BaseException.__getattribute__") [.ref x,.str "__class__" t]) _ _ _
  refine wpAny_call (codeAny_call_builtin PySem.F.excAttr_ValueError.ga.plain PySem.F.entry_bexc_ga (bexc_check X I hb ?_))
  show wpAny _ _ (Builtin.«object.__getattribute__» ⟨[.ref x,.str "__class__" t],[]⟩) _ _ _
  unfold Builtin.«object.__getattribute__»
  refine wpAny_bind (wpAny_of_eq (show slotArgs "__getattribute__" 1 ⟨[.ref x,.str "__class__" t],[]⟩=pure (.ref x,[.str "__class__" t]) from rfl) ?_)
  refine wpAny_bind (wpAny_of_eq (show attrName (.str "__class__" t)=pure "__class__" from rfl) ?_)
  refine wpAny_bind (L0.at (wpAny_bind (LF.at ?_)))
  show wpAny _ _ (holding [.builtin "object.__class__"] (call (.builtin "getset_descriptor.__get__") [.builtin "object.__class__",.ref x,.ref D]) >>= ret) _ _ _
  refine wpAny_bind (wpAny_holding (wpAny_call (class_get (ox:=ox) (od:=odo) X I hm ?_)))
  exact wpAny_pure (wpAny_pure (wpAny_pure h))
structure ExcK (K:PySem.W.Frag) (D:Addr):Prop where
  cs:(clsIn K D).isSome=true
  ga:findIn K (.ref D) "__getattribute__"=some (some (.builtin "BaseException.__getattribute__"))
  gh:findIn K (.ref D) "__getattr__"=some none
  be:mroIn K D (.type "BaseException")=some true
  ob:mroIn K D (.type "object")=some true
  ca:findIn K (.ref D) "__class__"=some (some (.builtin "object.__class__"))
  cg:specialIn K (.builtin "object.__class__") "__get__"=some (some (.builtin "getset_descriptor.__get__"))
  ct:takesIn K (.builtin "object.__class__")=some true
theorem kitx_exc (k:ExcK K D):KitX K (.ref x) (.ref D) (fun h=>PySem.W.InstAt h x ox D odo) where
  ty:=fun _ _ _ I=>I.type
  it:=fun _ _ X _=>by
    obtain ⟨cdD,hcD⟩:=Option.isSome_iff_exists.mp k.cs
    unfold clsIn at hcD
    split at hcD
    · rename_i c' d' cd' sl' ho
      intro A' Q' E' s' k q
      unfold isType loadHead
      exact wpAny_bind (wpAny_loadPart (k _ _ (X _ _ ho)) (wpAny_pure q))
    · cases hcD
  ne:=fun h tp dd its n sl X htp=>by
    obtain ⟨cdD,hcD⟩:=Option.isSome_iff_exists.mp k.cs
    refine Bool.eq_false_iff.mpr fun q=>?_
    have e:D=tp:=Value.ref.inj (beq_iff_eq.mp q)
    subst e
    unfold clsIn at hcD
    split at hcD
    · rename_i c' d' cd' sl' ho
      have z:=(X _ _ ho).symm.trans htp
      cases z
    · cases hcD
  ca:=fun X I q=>bexc_class X I k.ga k.gh k.be (findObj_dataO k.cs k.ca k.cg k.ct) k.ob q
end
section
variable {X:Cx}
theorem call_isE:CallR X (.builtin "isinstance") (fun xs H Q=>∃ (ea D C:Addr) (b:Bool),xs = [.ref ea,.ref C]∧H ea=some (exO ea D none)∧ExcK X.K D∧kitOne X.K (.ref D) (.ref C)=some b∧Q (.bl b) H):=by
  intro pins s σ H xs us Q I r h
  obtain ⟨ea,D,C,b,rfl,he,k,e,q⟩:=h
  obtain ⟨u,w',rfl,rx,rc⟩:=vals2 r
  cases (show w'=Value.ref C from rc)
  cases (show u=Value.ref ea from rx)
  obtain ⟨⟨o,vs,e1,e2,e3,e4⟩,_⟩:=(show ObjOk X.prog X.w H s.heap ea (exO ea D none) from I.hok ea _ he)
  have J:PySem.W.InstAt s.heap ea o D none:=⟨e1,e2,by unfold notCls;rw [e4],by rw [e3];trivial⟩
  exact kia_one (kitx_exc (ox:=o) (odo:=none) k) I.kIn J e (fun z=>nomatch z) fun tk=>⟨.bl b,H,I.tok tk,rfl,q⟩
theorem call_isEB:CallR X (.builtin "isinstance") (fun xs H Q=>∃ (ea D:Addr) (c:String) (b:Bool),xs = [.ref ea,.ty c]∧H ea=some (exO ea D none)∧ExcK X.K D∧kitOne X.K (.ref D) (.type c)=some b∧Q (.bl b) H):=by
  intro pins s σ H xs us Q I r h
  obtain ⟨ea,D,C,b,rfl,he,k,e,q⟩:=h
  obtain ⟨u,w',rfl,rx,rc⟩:=vals2 r
  cases (show w'=Value.type C from rc)
  cases (show u=Value.ref ea from rx)
  obtain ⟨⟨o,vs,e1,e2,e3,e4⟩,_⟩:=(show ObjOk X.prog X.w H s.heap ea (exO ea D none) from I.hok ea _ he)
  have J:PySem.W.InstAt s.heap ea o D none:=⟨e1,e2,by unfold notCls;rw [e4],by rw [e3];trivial⟩
  exact kia_one (kitx_exc (ox:=o) (odo:=none) k) I.kIn J e (fun z=>nomatch z) fun tk=>⟨.bl b,H,I.tok tk,rfl,q⟩
end
end L2

set_option Elab.async false
set_option linter.all false
set_option maxRecDepth 100000
set_option maxHeartbeats 4000000
namespace L2
open PySem PySem.Spec PyProof.Rows
section
variable {X:Cx}{pins:List (Addr × Obj)}{σ:St}{H:Hp}{s:Shared}{h':Heap}
theorem Inv.turnedL {t':Nat}{ch:List Addr} (I:Inv X pins σ H s) (hf:∀ b ∈ ch,FpOk X pins H b) (k:∀ b o,b ∉ ch→s.heap.get? b=some o→h'.get? b=some o):Inv X pins σ H { s with heap:=h',toks:=t' }:=by
  have nit:∀ b u,H b=some u→b ∉ ch:=fun b u e z=>by rw [(hf b z).1] at e;cases e
  refine I.step (g':=s.gens) (d':=s.drawn) (ch:=ch) (fun b hb=>?_) (fun b o _ _ hc e _=>k b o hc e) (fun b o _ _ hc e _=>⟨o.slots,k b o hc e⟩) (fun _ _ _ _ n=>n)
    (fun b o hc e=>⟨o,k b o hc e⟩) (fun _ _ e=>e) (fun _ _ _ e=>e) (fun b ps e=>⟨#[],by rw [e];simp⟩) (fun m hm=>?_) (fun b u e=>?_) I.bare
  · obtain ⟨_,f1,_,f3,f4,f5⟩:=hf b hb
    exact ⟨f3,f1,f4,f5⟩
  · obtain ⟨o,es,ep,ho,r⟩:=hm
    exact ⟨o,es,ep,k _ o (fun z=>(hf _ z).2.1 rfl) ho,r⟩
  · refine (I.hok b u e).stay (fun c v hc q=>k c v ?_ q) (fun _ q=>q) fun _ _ q=>q
    rcases hc with z | z
    · rw [z];exact nit b u e
    · exact nit c _ z
theorem Inv.turnedNew {t':Nat}{ch:List Addr}{T:Addr}{ob:HO} (I:Inv X pins σ H s) (hf:∀ b ∈ ch,FpOk X pins H b) (k:∀ b o,b ∉ ch→s.heap.get? b=some o→h'.get? b=some o) (hT:s.heap.objs.size≤T)
    (new:ObjOk X.prog X.w (upd H T ob) h' T ob):Inv X pins σ (upd H T ob) { s with heap:=h',toks:=t' }:=by
  have nT:H T=none:=I.hok.fresh hT
  have neT:∀ b u,s.heap.get? b=some u→b ≠ T:=fun b u e z=>absurd (Nat.lt_of_lt_of_le (Heap.lt_size e) (z ▸ hT)) (Nat.lt_irrefl _)
  have nit:∀ b u,H b=some u→b ∉ ch:=fun b u e z=>by rw [(hf b z).1] at e;cases e
  refine I.step (g':=s.gens) (d':=s.drawn) (ch:=ch) (fun b hb=>?_) (fun b o _ _ hc e _=>k b o hc e) (fun b o _ _ hc e _=>⟨o.slots,k b o hc e⟩) (fun b o _ e n=>by rw [upd_ne (neT b o e)];exact n)
    (fun b o hc e=>⟨o,k b o hc e⟩) (fun b xs e=>by rw [upd_ne (ne_of_none e nT)];exact e) (fun b o u e=>by rw [upd_ne (ne_of_none e nT)];exact e) (fun b ps e=>⟨#[],by rw [upd_ne (ne_of_none e nT),e];simp⟩) (fun m hm=>?_) (fun b u e=>?_) I.bare
  · obtain ⟨_,f1,_,f3,f4,f5⟩:=hf b hb
    exact ⟨f3,f1,f4,f5⟩
  · obtain ⟨o,es,ep,ho,r⟩:=hm
    exact ⟨o,es,ep,k _ o (fun z=>(hf _ z).2.1 rfl) ho,r⟩
  · by_cases hb:b=T
    · subst hb
      rw [upd_same] at e
      cases e
      exact new
    · rw [upd_ne hb] at e
      refine (I.hok b u e).stay (fun c v hc q=>k c v ?_ q) (fun c q=>by rw [upd_ne (ne_of_none q nT)];exact q) fun c xs q=>by rw [upd_ne (ne_of_none q nT)];exact q
      rcases hc with z | z
      · rw [z];exact nit b u e
      · exact nit c _ z
end
noncomputable def Itz (K:PySem.W.Frag) (a b:Addr):It:=
  ⟨fun i H=>∃ xs ys x y,SqL K H a xs∧SqL K H b ys∧xs[i]?=some x∧ys[i]?=some y,
   fun i H v H'=>∃ T x y,H T=none∧v = .ref T∧(∀ xs,SqL K H a xs→xs[i]?=some x)∧(∀ ys,SqL K H b ys→ys[i]?=some y)∧H'=upd H T (.tup [x,y]),
   fun i H=>∃ xs ys,SqL K H a xs∧SqL K H b ys∧i=min xs.length ys.length⟩
noncomputable abbrev zipSt (z TI TO i1 i2 l1 l2:Addr) (i:Nat) (h:Heap):Prop:=
  IsZip h z TI TO .none∧IsPair h TI (.ref i1) (.ref i2)∧(∃ a b,IsPair h TO a b)∧h.IsListIter i1 l1 i∧h.IsListIter i2 l2 i
theorem turn_zip {P:Program}{w:World}{K:PySem.W.Frag}{elts:List Expr}{k:Nat}{pos:Pos}{z TI TO i1 i2 l1 l2:Addr} (D:ZipApart z TI TO i1 i2 l1 l2) :
    Turn P w K (.Tuple elts k pos) (Itz K l1 l2) [z,TI,TO,i1,i2] z (zipSt z TI TO i1 i2 l1 l2) where
  mem:=by simp
  obj:=fun i h st b hb=>by
    obtain ⟨hz,hTI,⟨a,c,hTO⟩,⟨o1,e1,c1,d1⟩,⟨o2,e2,c2,d2⟩⟩:=st
    simp at hb
    rcases hb with rfl | rfl | rfl | rfl | rfl
    · exact ⟨_,hz,fun v q=>nomatch q⟩
    · exact ⟨_,hTI,fun v q=>nomatch q⟩
    · exact ⟨_,hTO,fun v q=>nomatch q⟩
    · exact ⟨_,e1,fun v q=>by rw [d1] at q;cases q⟩
    · exact ⟨_,e2,fun v q=>by rw [d2] at q;cases q⟩
  keep:=fun i h h' st kk=>by
    obtain ⟨hz,hTI,⟨a,c,hTO⟩,h1,h2⟩:=st
    exact ⟨kk z (by simp) _ hz,kk TI (by simp) _ hTI,⟨a,c,kk TO (by simp) _ hTO⟩,h1.at fun o e=>kk i1 (by simp) o e,h2.at fun o e=>kk i2 (by simp) o e⟩
  item:=by
    intro X hP hw hK hc i pins s σ H E I hf st hg
    subst hP hw hK
    obtain ⟨xs,ys,x,y,hx,hy,ex,ey⟩:=hg
    obtain ⟨its1,rv1,p1,z1⟩:=I.list hx
    obtain ⟨its2,rv2,p2,z2⟩:=I.list hy
    obtain ⟨u1,eu1,ru1⟩:=rv1.get ex
    obtain ⟨u2,eu2,ru2⟩:=rv2.get ey
    have W:=WalksT.zip2 (prog:=X.prog) (w:=X.w) (A:=X.A) (I.ok.hd hc) z TI TO i1 i2 l1 l2 D its1.toArray its2.toArray
    obtain ⟨hz,hTI,hTO,h1,h2⟩:=st
    have hn:i < min its1.toArray.size its2.toArray.size:=by
      have a:=(List.getElem?_eq_some_iff.mp eu1).1
      have b:=(List.getElem?_eq_some_iff.mp eu2).1
      simp
      omega
    refine W.item i s _ _ hn ⟨hz,hTI,hTO,h1,h2,p1.isList,p2.isList⟩ fun T vals h' tk hPt hnew hT hMid kk=>?_
    refine ⟨.ref T,rfl,?_⟩
    refine W.go elts k pos i T _ _ _ hMid fun h'' st'' kk2=>?_
    obtain ⟨x',y',ex',ey',rfl⟩:=hPt
    obtain rfl:x'=u1:=by
      have:its1[i]?=some x':=by simpa using ex'
      rw [eu1] at this;exact (Option.some.inj this).symm
    obtain rfl:y'=u2:=by
      have:its2[i]?=some y':=by simpa using ey'
      rw [eu2] at this;exact (Option.some.inj this).symm
    have hTw:=W.apart i T _ hMid
    have k3:∀ b o,b ∉ [z,TO,i1,i2]→s.heap.get? b=some o→h''.get? b=some o:=fun b o hb e=>kk2 b o hb (kk b o hb e)
    have nT:H T=none:=I.hok.fresh hnew
    obtain ⟨oT,eT,cT,nn,dT⟩:=hT
    have eT2:h''.get? T=some oT:=kk2 T oT hTw eT
    have ok:ObjOk X.prog X.w (upd H T (.tup [x,y])) h'' T (.tup [x,y]):=⟨by show 2≤sizeLine;decide,[x',y'],.cons ru1 (.cons ru2 .nil),oT,eT2,cT,nn,by simpa using dT⟩
    have I2:Inv X pins σ (upd H T (.tup [x,y])) { s with heap:=h'',toks:=tk }:=I.turnedNew (ch:=[z,TO,i1,i2]) (fun b hb=>hf b (by simp at hb ⊢;rcases hb with rfl | rfl | rfl | rfl <;> simp)) k3 hnew ok
    have hob:∀ b ∈ [z,TI,TO,i1,i2],∃ o,s.heap.get? b=some o:=fun b hb=>by
      obtain ⟨ta,tb,hTO'⟩:=hTO
      obtain ⟨q1,r1,_⟩:=h1
      obtain ⟨q2,r2,_⟩:=h2
      simp at hb
      rcases hb with rfl | rfl | rfl | rfl | rfl
      · exact ⟨_,hz⟩
      · exact ⟨_,hTI⟩
      · exact ⟨_,hTO'⟩
      · exact ⟨_,r1⟩
      · exact ⟨_,r2⟩
    refine ⟨.ref T,upd H T (.tup [x,y]),I2,rfl,⟨T,x,y,nT,rfl,fun vs hv=>by rw [I.list_inj hv hx];exact ex,fun vs hv=>by rw [I.list_inj hv hy];exact ey,rfl⟩,⟨st''.1,st''.2.1,st''.2.2.1,st''.2.2.2.1,st''.2.2.2.2.1⟩,fun b hb=>?_⟩
    rw [upd_ne ?_]
    · exact (hf b hb).1
    · intro zz
      obtain ⟨o,eo⟩:=hob b hb
      exact absurd (Nat.lt_of_lt_of_le (Heap.lt_size eo) (zz ▸ hnew)) (Nat.lt_irrefl _)
  done:=by
    intro X hP hw hK hc i pins s σ H E I hf st hg
    subst hP hw hK
    obtain ⟨xs,ys,hx,hy,ei⟩:=hg
    obtain ⟨its1,rv1,p1,z1⟩:=I.list hx
    obtain ⟨its2,rv2,p2,z2⟩:=I.list hy
    have W:=WalksT.zip2 (prog:=X.prog) (w:=X.w) (A:=X.A) (I.ok.hd hc) z TI TO i1 i2 l1 l2 D its1.toArray its2.toArray
    obtain ⟨hz,hTI,hTO,h1,h2⟩:=st
    have l1':=rv1.length
    have l2':=rv2.length
    have hn:i=min its1.toArray.size its2.toArray.size:=by simp;omega
    refine W.done s _ _ (hn ▸ ⟨hz,hTI,hTO,h1,h2,p1.isList,p2.isList⟩) fun h' tk kk=>⟨rfl,?_⟩
    exact I.turnedL (ch:=[z,TO,i1,i2]) (fun b hb=>hf b (by simp at hb ⊢;rcases hb with rfl | rfl | rfl | rfl <;> simp)) kk
  self:=fun _ _ _ _ _ st h=>wpAny_pyIter_zip st.1 h
noncomputable def iZip (K:PySem.W.Frag) (ta:TA):TI:=fun σ H R=>ta σ H fun vs H1=>∃ a b:Addr,vs = [.ref a,.ref b]∧(∃ xs,SqL K H1 a xs)∧(∃ ys,SqL K H1 b ys)∧R (Itz K a b) H1
theorem pi_zip2 {X:Cx}{elts:List Expr}{k:Nat}{tpos:Pos}{a b:Expr}{ta:TA}{p pos:Pos} (hg:Gl X "zip") (hm:X.mg "zip"=none) (ha:PA X [a,b] ta) (hs:starEach [a,b] X.env = [(false,eval a X.env),(false,eval b X.env)]:=by rfl) (hs2:starEach [b] X.env = [(false,eval b X.env)]:=by rfl) :
    PI X (.Tuple elts k tpos) (.Call (.Name "zip" p) [a,b] [] pos) (iZip X.K ta):=by
  intro pins s σ H R I h
  refine Call_ (ld_blt I hg hm (show bootBuiltins "zip"=some (.type "zip") by decide +kernel) (PyProof.Rows.callWith_type1 (thn (ha pos pins s σ H _ I h) fun us s1 zz=>?_) (by rw [hs,hs2]) (by rw [hs2];rfl)))
  obtain ⟨vs,H1,I1,r1,q1⟩:=zz
  obtain ⟨l1,l2,e,⟨xs,hx⟩,⟨ys,hy⟩,q⟩:=q1
  subst e
  cases r1 with
  | cons r rr =>
    cases rr with
    | cons r' rr =>
      cases rr
      cases (show _=Value.ref l1 from r)
      cases (show _=Value.ref l2 from r')
      obtain ⟨its1,rv1,p1,z1⟩:=I1.list hx
      obtain ⟨its2,rv2,p2,z2⟩:=I1.list hy
      have hlt1:l1 < s1.heap.objs.size:=by
        obtain ⟨o1,n1,e1,_⟩:=p1
        exact Heap.lt_size e1
      have hlt2:l2 < s1.heap.objs.size:=by
        obtain ⟨o2,n2,e2,_⟩:=p2
        exact Heap.lt_size e2
      refine call_zip_2 p1.isList p2.isList fun h' hz hTI hTO hi1 hi2 hsz hk=>?_
      refine wpAny_pyIter_zip hz ?_
      refine ⟨s1.heap.objs.size + 4,[s1.heap.objs.size + 4,s1.heap.objs.size + 2,s1.heap.objs.size + 3,s1.heap.objs.size,s1.heap.objs.size + 1],_,_,H1,rfl,I1.kept (t':=s1.toks) hk,turn_zip (PySem.W.ktu_apart _ _ _ hlt1 hlt2),⟨hz,hTI,⟨_,_,hTO⟩,hi1,hi2⟩,fun b hb=>?_,q⟩
      have hb':s1.heap.objs.size≤b:=by
        simp at hb
        rcases hb with rfl | rfl | rfl | rfl | rfl <;> first | exact Nat.le_refl _ | exact Nat.le_add_right _ _
      exact I1.fpOk hb' (I1.hok.fresh hb')
theorem for_zip {K:PySem.W.Frag}{a b:Addr}{xs ys:List V}{g:TG}{tb:TS}{D:Ends}{σ:St}{H:Hp} (Pv:Nat→St→Hp→Prop) (h0:Pv 0 σ H) (hl:∀ i σ H,i≤xs.length→Pv i σ H→SqL K H a xs∧SqL K H b ys) (hxy:xs.length=ys.length)
    (hs:∀ i x y T σ H,xs[i]?=some x→ys[i]?=some y→Pv i σ H→H T=none→g (.ref T) σ (upd H T (.tup [x,y])) fun σ2 H2=>tb { D with nx:=Pv (i + 1),ct:=Pv (i + 1),bk:=D.nx } σ2 H2) (hd:∀ σ H,Pv xs.length σ H→D.nx σ H) :
    ∃ W:Nat→Nat→St→Hp→Prop,(∃ m,W 0 m σ H)∧∀ i m σ H,W i m σ H →
      ((Itz K a b).stop i H∧D.nx σ H) ∨ ((Itz K a b).go i H∧∃ N:St→Hp→Prop,(∀ σ' H',N σ' H'→∃ m',m' < m∧W (i + 1) m' σ' H')∧∀ x H',(Itz K a b).yld i H x H'→g x σ H' fun σ2 H2=>tb { D with nx:=N,ct:=N,bk:=D.nx } σ2 H2):=by
  refine ⟨fun i m σ H=>m=xs.length - i∧i≤xs.length∧Pv i σ H,⟨xs.length,by simp,Nat.zero_le _,h0⟩,?_⟩
  rintro i m σ H ⟨rfl,hi,p⟩
  obtain ⟨q1,q2⟩:=hl i σ H hi p
  by_cases hlt:i < xs.length
  · refine .inr ⟨⟨xs,ys,xs[i],ys[i],q1,q2,by simp [hlt],by simp [show i < ys.length by omega]⟩,Pv (i + 1),fun σ' H' p'=>⟨xs.length - (i + 1),by omega,rfl,hlt,p'⟩,fun v H' yl=>?_⟩
    obtain ⟨T,x,y,nT,rfl,hx,hy,rfl⟩:=yl
    exact hs i x y T σ H (hx xs q1) (hy ys q2) p nT
  · have e:i=xs.length:=by omega
    subst e
    exact .inl ⟨⟨xs,ys,q1,q2,by omega⟩,hd σ H p⟩

/-! ### list comprehensions, the forms one uses -/
theorem cstep {n i:Nat}{P:Prop} (h:i < n) (p:P):∃ m',m' < n - i∧m'=n - (i + 1)∧i + 1≤n∧P:=⟨n - (i + 1),by omega,rfl,h,p⟩
theorem comp_list {K:PySem.W.Frag}{a:Addr}{xs:List V}{c:TC}{tif:TT}{te:TE}{σ:St}{Q:VK}{acc:Addr}{H0:Hp} (Pv:Nat→List V→Hp→Prop) (h0:Pv 0 [] H0) (hl:∀ i ys H,i≤xs.length→Pv i ys H→SqL K H a xs)
    (hs:∀ i x ys H,i < xs.length→xs[i]?=some x→Pv i ys H→c x H fun vs=>tif (σ ++ vs.map some) H fun b H3=>if b=true then te (σ ++ vs.map some) H3 fun v H4=>H4 acc=some (.lst ys)∧ys.length < sizeLine∧∃ m',m' < xs.length - i∧m'=xs.length - (i + 1)∧i + 1≤xs.length∧Pv (i + 1) (ys ++ [v]) (upd H4 acc (.lst (ys ++ [v])))
      else ∃ m',m' < xs.length - i∧m'=xs.length - (i + 1)∧i + 1≤xs.length∧Pv (i + 1) ys H3) (hd:∀ ys H,Pv xs.length ys H→Q (.ref acc) H) :
    CompR (Itl K a) c tif te σ Q acc H0:=by
  refine ⟨fun i m ys H=>m=xs.length - i∧i≤xs.length∧Pv i ys H,⟨xs.length,by simp,Nat.zero_le _,h0⟩,?_⟩
  rintro i m ys H ⟨rfl,hi,p⟩
  have q:=hl i ys H hi p
  by_cases hlt:i < xs.length
  · refine .inr ⟨⟨xs,xs[i],q,by simp [hlt]⟩,fun x H' y=>?_⟩
    obtain ⟨e,y⟩:=y
    subst e
    exact hs i x ys _ hlt (y xs q) p
  · have e:i=xs.length:=by omega
    subst e
    exact .inl ⟨⟨xs,q,Nat.le_refl _⟩,hd ys H p⟩
theorem comp_tup {K:PySem.W.Frag}{a:Addr}{xs:List V}{c:TC}{tif:TT}{te:TE}{σ:St}{Q:VK}{acc:Addr}{H0:Hp} (Pv:Nat→List V→Hp→Prop) (h0:Pv 0 [] H0) (hl:∀ i ys H,i≤xs.length→Pv i ys H→SqT K H a xs)
    (hs:∀ i x ys H,i < xs.length→xs[i]?=some x→Pv i ys H→c x H fun vs=>tif (σ ++ vs.map some) H fun b H3=>if b=true then te (σ ++ vs.map some) H3 fun v H4=>H4 acc=some (.lst ys)∧ys.length < sizeLine∧∃ m',m' < xs.length - i∧m'=xs.length - (i + 1)∧i + 1≤xs.length∧Pv (i + 1) (ys ++ [v]) (upd H4 acc (.lst (ys ++ [v])))
      else ∃ m',m' < xs.length - i∧m'=xs.length - (i + 1)∧i + 1≤xs.length∧Pv (i + 1) ys H3) (hd:∀ ys H,Pv xs.length ys H→Q (.ref acc) H) :
    CompR (Itt K a) c tif te σ Q acc H0:=by
  refine ⟨fun i m ys H=>m=xs.length - i∧i≤xs.length∧Pv i ys H,⟨xs.length,by simp,Nat.zero_le _,h0⟩,?_⟩
  rintro i m ys H ⟨rfl,hi,p⟩
  have q:=hl i ys H hi p
  by_cases hlt:i < xs.length
  · refine .inr ⟨⟨xs,xs[i],q,by simp [hlt]⟩,fun x H' y=>?_⟩
    obtain ⟨e,y⟩:=y
    subst e
    exact hs i x ys _ hlt (y xs q) p
  · have e:i=xs.length:=by omega
    subst e
    exact .inl ⟨⟨xs,q,Nat.le_refl _⟩,hd ys H p⟩
theorem comp_range {lo:Int}{n:Nat}{c:TC}{tif:TT}{te:TE}{σ:St}{Q:VK}{acc:Addr}{H0:Hp} (Pv:Nat→List V→Hp→Prop) (h0:Pv 0 [] H0)
    (hs:∀ i  ys H,i < n→Pv i ys H→c (.int (lo + i)) H fun vs=>tif (σ ++ vs.map some) H fun b H3=>if b=true then te (σ ++ vs.map some) H3 fun v H4=>H4 acc=some (.lst ys)∧ys.length < sizeLine∧∃ m',m' < n - i∧m'=n - (i + 1)∧i + 1≤n∧Pv (i + 1) (ys ++ [v]) (upd H4 acc (.lst (ys ++ [v])))
      else ∃ m',m' < n - i∧m'=n - (i + 1)∧i + 1≤n∧Pv (i + 1) ys H3) (hd:∀ ys H,Pv n ys H→Q (.ref acc) H) :
    CompR (Itr lo n) c tif te σ Q acc H0:=by
  refine ⟨fun i m ys H=>m=n - i∧i≤n∧Pv i ys H,⟨n,by simp,Nat.zero_le _,h0⟩,?_⟩
  rintro i m ys H ⟨rfl,hi,p⟩
  by_cases hlt:i < n
  · refine .inr ⟨hlt,fun x H' y=>?_⟩
    obtain ⟨e,y⟩:=y
    subst e y
    exact hs i  ys _ hlt  p
  · have e:i=n:=by omega
    subst e
    exact .inl ⟨Nat.le_refl _,hd ys H p⟩
end L2

set_option Elab.async false
set_option linter.all false
set_option maxRecDepth 100000
set_option maxHeartbeats 4000000
namespace L2
open PySem PySem.Spec PyProof.Rows
theorem ps_comp {X:Cx}{i0:Nat}{y:Str}{py spos:Pos}{elt tg iter:Expr}{ifs:List Expr}{sc sc0:Scope}{pos:Pos}{N NB ts:List Str}{wi:TI}{g:TG}{c:TC}{tif:TT}{te:TE} (hc:X.calm=true) (hsc:X.env.scope=sc0) (hXN:X.N=N) (S:ScOk sc sc0 N NB ts)
    (hi:PI X tg iter wi) (ht:Takes g c N.length ts.length)
    (hg:∀ (C:Addr) (s₁:Shared) (H₁:Hp) (pn:List (Addr × Obj)) (fp:List Addr),PG (X.blk sc C s₁ H₁ pn fp NB) tg g)
    (hf:∀ (C:Addr) (s₁:Shared) (H₁:Hp) (pn:List (Addr × Obj)) (fp:List Addr),PIf (X.blk sc C s₁ H₁ pn fp NB) ifs tif)
    (he:∀ (C:Addr) (s₁:Shared) (H₁:Hp) (pn:List (Addr × Obj)) (fp:List Addr),PE (X.blk sc C s₁ H₁ pn fp NB) elt te)
    (hN:X.N.Nodup) (hy:X.N[i0]?=some y) (hly:X.env.scope.names.lookup y=some .local)
    (hs:∀ x,foldedSetIterable iter X.env x=pure x:=by intro _;rfl) (hsw:swapsWith (.ListComp elt [⟨tg,iter,ifs,0⟩] sc pos) (some (.Name y py)) spos.line X.env=pure true:=by rfl) :
    PS X (.Assign [.Name y py] (.ListComp elt [⟨tg,iter,ifs,0⟩] sc pos) spos) (tAsg (tComp wi c tif te) (gName i0)):=by
  intro pins s σ H D I h
  rw [exec_Assign_Name_used _ _ _ _ hsw]
  refine wpAny_bind (wpAny_standAt (wpAny_bind ?_))
  show wpAny _ X.A (do let _ ← comprehension (.ListComp elt [⟨tg,iter,ifs,0⟩] sc pos) sc X.env _ (newList []) false (eval iter X.env) (some (assign (.Name y py) X.env))) _ _ s
  have hcell:∀ p ∈ sc.names,p.2 = .free→∃ c,X.env.cells.lookup p.1=some c:=fun p hp e=>by
    have k:=S.free p hp e
    refine I.ok.has p.1 ?_
    show X.env.scope.names.lookup p.1=some .cell ∨ X.env.scope.names.lookup p.1=some .free
    rw [hsc]
    exact k
  have hclm:∀ y c,(clOf X.env sc.names []).lookup y=some c→X.env.cells.lookup y=some c:=fun y c e=>clOf_mem hcell (fun _ _ z=>by cases z) e
  refine wpAny_bind (wpAny_mono (wpAny_comprehension_free (use:=some (assign (.Name y py) X.env)) (Q:=fun _ s'=>SP X pins D .next s') rfl hs (closureFor_cl hcell) S.kind S.loc ?_) (fun _ s' hq=>wpAny_pure (wpAny_pure hq)) fun _ _ e=>e)
  refine thn (hi pins s σ H _ I h) fun v s1 h1=>thn h1 fun itv s2 h2=>?_
  obtain ⟨it,fp,tn,J,H2,e,I2,T,st2,f2,q2⟩:=h2
  subst e
  have hσ:σ.length=N.length:=by rw [I2.len,hXN]
  have fa:H2 s2.heap.objs.size=none:=I2.hok.fresh (Nat.le_refl _)
  obtain ⟨W,⟨m0,w0⟩,turn⟩:=q2 s2.heap.objs.size fa
  refine wpAny_newObj_type (wpAny_newFunctionEnv S.nocell (by intro y hy;simp at hy) (fun h₁ hns₁ hsb₁=>?_) S.kind)
  dsimp only at hns₁ hsb₁ ⊢
  generalize hH2:s2.heap.push { cls:=.type "list",dict:=none,data:=.seq ([]:List Value).toArray }=hp2 at hns₁ hsb₁ ⊢
  have hC:hp2.objs.size=s2.heap.objs.size + 1:=by rw [← hH2,Heap.size_push]
  have old:∀ b o,s2.heap.get? b=some o→h₁.get? b=some o:=fun b o e=>hsb₁.extBut b o (by rw [hC];exact Nat.ne_of_lt (Nat.lt_succ_of_lt (Heap.lt_size e))) (Heap.get?_push_of_some _ (hH2 ▸ Heap.get?_push_of_some _ e))
  have hacc:h₁.get? s2.heap.objs.size=some { cls:=.type "list",dict:=none,data:=.seq ([]:List Value).toArray }:=hsb₁.extBut _ _ (by rw [hC];exact Nat.ne_of_lt (Nat.lt_succ_self _)) (Heap.get?_push_of_some _ (hH2 ▸ Heap.get?_push_size _ rfl))
  have nC:s2.heap.get? hp2.objs.size=none:=by
    cases q:s2.heap.get? hp2.objs.size with
    | none=>rfl
    | some o=>exact absurd (Nat.lt_trans (Nat.lt_succ_self _) (hC ▸ Heap.lt_size q)) (Nat.lt_irrefl _)
  have stkM:∀ b,b ∈ frs X.stack→b=X.env.locals ∨ b ∈ X.fs:=fun b hb=>List.mem_cons.mp (I2.stkSub b hb)
  have ltO:∀ {b o},s2.heap.get? b=some o→b ≠ s2.heap.objs.size∧b ≠ hp2.objs.size:=fun e=>⟨Nat.ne_of_lt (Heap.lt_size e),by rw [hC];exact Nat.ne_of_lt (Nat.lt_succ_of_lt (Heap.lt_size e))⟩
  have okY:(X.blk sc hp2.objs.size s2 H2 (X.pn ++ pins) fp NB).Ok:=by
    refine ⟨I2.ok.mod,?_,I2.ok.glob,I2.ok.blt,?_,fun x y c h1 h2=>I2.ok.inj x y c (hclm _ _ h1) (hclm _ _ h2),fun x hx=>?_,fun x c h=>?_,I2.ok.hd,I2.ok.frames,.inl rfl,fun b hb=>?_,I2.bs,Nat.le_trans I2.ok.bsz I2.sz,fun b o e hb=>?_,fun b hb hm=>?_,I2.stack,I2.stkFree⟩
    · show (relabel sc X.env).kind = .function
      exact S.kind
    · show s2.heap.objs.size≤hp2.objs.size
      rw [hC]
      exact Nat.le_succ _
    · have hx':∃ k,((relabel sc X.env).names.lookup x=some k)∧(k = .cell ∨ k = .free):=hx.elim (fun z=>⟨_,z,.inl rfl⟩) fun z=>⟨_,z,.inr rfl⟩
      obtain ⟨k,hk,hkk⟩:=hx'
      obtain ⟨k0,e0,r0⟩:=lookup_relabel hk
      have hfree:k0 = .free:=by
        have m0:=mem_of_lk e0
        have nc:=S.nocell _ m0
        rcases r0 with r0 | ⟨r0,_⟩
        · subst r0
          rcases hkk with z | z
          · exact absurd z nc
          · exact z
        · exact r0
      subst hfree
      have z:=clOf_has (env:=X.env) (acc:=[]) (mem_of_lk e0)
      exact Option.isSome_iff_exists.mp z
    · cases h
    · obtain ⟨f0,f1,f3,f4,f5,f6⟩:=f2 b hb
      obtain ⟨o,eo,_⟩:=T.obj 0 s2.heap st2 b hb
      exact ⟨(ltO eo).2,fun x c e=>f5 x c (hclm x c e)⟩
    · obtain ⟨f0,f1,f3,f4,f5,f6⟩:=f2 b hb
      rcases f4 with z | z
      · exact I2.ok.noex b o e z
      · exact absurd (Nat.lt_of_lt_of_le (Heap.lt_size e) (Nat.le_trans I2.ok.bsz z)) (Nat.lt_irrefl _)
    · obtain ⟨f0,f1,f3,f4,f5,f6⟩:=f2 b hb
      rcases stkM b hm with z | z
      · exact f1 z
      · exact f3 z
  have IY:Inv (X.blk sc hp2.objs.size s2 H2 (X.pn ++ pins) fp NB) [] (σ ++ List.replicate ts.length none) (upd H2 s2.heap.objs.size (.lst [])) { s2 with heap:=h₁,toks:=s2.toks + ([]:List (Str × Value)).length }:=by
    refine ⟨okY,rfl,I2.bare,Un.laid old (Nat.le_refl _) fa,⟨_,hns₁,fun i x v e1 e2 e3=>?_⟩,fun x c e=>?_,?_,fun x c e=>?_,fun p hp=>?_,?_,?_⟩
    · have hiN:i < N.length:=by
        by_cases z:i < N.length
        · exact z
        · rw [List.getElem?_append_right (by omega),List.getElem?_replicate] at e2
          split at e2 <;> cases e2
      rw [List.getElem?_append_left (by omega)] at e2
      have e3':∃ k,(relabel sc X.env).names.lookup x=some k:=e3.elim (fun z=>⟨_,z⟩) fun z=>z.elim (fun z=>⟨_,z⟩) fun z=>⟨_,z⟩
      obtain ⟨k,hk⟩:=e3'
      obtain ⟨k0,e0,r0⟩:=lookup_relabel hk
      have m0:=mem_of_lk e0
      have hfree:k0 = .free:=by
        have nl:=S.locN i x hiN e1
        have nc:=S.nocell _ m0
        have kk:k = .local ∨ k = .cell ∨ k = .free:=by
          rcases e3 with z | z | z
          · exact .inl (Option.some.inj (hk.symm.trans z))
          · exact .inr (.inl (Option.some.inj (hk.symm.trans z)))
          · exact .inr (.inr (Option.some.inj (hk.symm.trans z)))
        rcases r0 with r0 | ⟨r0,_⟩
        · subst r0
          rcases kk with z | z | z
          · exact absurd (by rw [e0,z]) nl
          · exact absurd z nc
          · exact z
        · exact r0
      subst hfree
      have eN:=S.same i x hiN e1 e0
      have hkX:=S.free _ m0 rfl
      have kX:X.env.kindOf x=some .cell ∨ X.env.kindOf x=some .free:=by
        show X.env.scope.names.lookup x=some .cell ∨ X.env.scope.names.lookup x=some .free
        rw [hsc]
        exact hkX
      obtain ⟨m,hn,hl⟩:=I2.loc
      obtain ⟨u,ru,lk⟩:=hl i x v (by rw [hXN];exact eN) e2 (.inr kX)
      refine ⟨u,ru,.inr ⟨?_,?_⟩⟩
      · rcases r0 with r0 | ⟨_,r0⟩
        · exact .inr (by show (relabel sc X.env).names.lookup x=some .free;rw [hk,← r0])
        · exact .inl (by show (relabel sc X.env).names.lookup x=some .cell;rw [hk,r0])
      · obtain ⟨c,hcl⟩:=Option.isSome_iff_exists.mp (clOf_has (env:=X.env) (acc:=[]) m0)
        refine ⟨c,hcl,?_⟩
        rcases lk with ⟨z,_⟩ | ⟨_,c',ec,z⟩
        · rcases kX with k | k
          · rw [z] at k;cases k
          · rw [z] at k;cases k
        · have z2:=hclm x c hcl
          rw [ec] at z2
          cases z2
          exact z.keeps old
    · obtain ⟨v,z⟩:=I2.cell x c (hclm x c e)
      exact ⟨v,z.keeps old⟩
    · show upd H2 s2.heap.objs.size (.lst []) hp2.objs.size=none
      rw [upd_ne (by rw [hC];exact Nat.ne_of_gt (Nat.lt_succ_self _))]
      exact I2.hok.fresh (by rw [hC];exact Nat.le_succ _)
    · obtain ⟨v,z⟩:=I2.cell x c (hclm x c e)
      rw [upd_ne (Nat.ne_of_lt z.lt)]
      exact I2.freeC x c (hclm x c e)
    · obtain ⟨e,n,ne,nf,d⟩:=I2.pin p (by simpa using hp)
      refine ⟨old _ _ e,by rw [upd_ne (ltO e).1];exact n,(ltO e).2,fun hm=>?_,d⟩
      rcases stkM _ hm with z | z
      · exact ne z
      · exact nf z
    · exact I2.hok.laid old (Nat.le_refl _) ⟨Nat.zero_le _,[],0,.nil,hacc⟩
    · show (σ ++ List.replicate ts.length none).length=NB.length
      rw [List.length_append,List.length_replicate,hσ,S.len]
  have stat:∀ {H':Hp},(∀ b ∈ fp,H' b=none)→∀ b ∈ fp,FpOk (X.blk sc hp2.objs.size s2 H2 (X.pn ++ pins) fp NB) [] H' b:=fun hn b hb=>by
    obtain ⟨f0,f1,f3,f4,f5,f6⟩:=f2 b hb
    obtain ⟨o,eo,_⟩:=T.obj 0 s2.heap st2 b hb
    exact ⟨hn b hb,(ltO eo).2,fun hm=>(stkM b hm).elim f1 f3,.inl hb,fun x c e=>f5 x c (hclm x c e),fun p hp=>f6 p (by simpa using hp)⟩
  have fpn:∀ b ∈ fp,upd H2 s2.heap.objs.size (.lst []) b=none:=fun b hb=>by
    obtain ⟨o,eo,_⟩:=T.obj 0 s2.heap st2 b hb
    rw [upd_ne (ltO eo).1]
    exact (f2 b hb).1
  have loop:codeAny (model X.prog X.w) X.A (.compLoop (.ListComp elt [⟨tg,iter,ifs,0⟩] sc pos) 0 (.ref it) (.ref s2.heap.objs.size) (compEnvC sc (clOf X.env sc.names []) hp2.objs.size X.env))
      (compPost (model X.prog X.w) X.A X.xe (some (assign (.Name y py) X.env)) (fun _ s'=>SP X pins D .next s') (.ref s2.heap.objs.size) hp2.objs.size) { s2 with heap:=h₁,toks:=s2.toks + ([]:List (Str × Value)).length }:=by
    refine comp_loop (fun n s'=>∃ i ys tl H',tl.length=ts.length∧Inv (X.blk sc hp2.objs.size s2 H2 (X.pn ++ pins) fp NB) [] (σ ++ tl) H' s'∧tn i s'.heap∧(∀ b ∈ fp,H' b=none)∧W i n ys H') ?_ m0
      ⟨0,[],List.replicate ts.length none,_,by simp,IY,T.keep _ _ _ st2 (fun b hb o e=>old b o e),fpn,w0⟩
    rintro n s3 ⟨i,ys,tl,H3,htl,I3,st3,fr3,w3⟩
    rcases turn i n ys H3 w3 with ⟨stop,qn⟩ | ⟨go,step⟩
    · refine thn (T.done (X.blk sc hp2.objs.size s2 H2 (X.pn ++ pins) fp NB) rfl rfl rfl hc i [] s3 _ H3 _ I3 (stat fr3) st3 stop) fun r s4 ⟨hr,I4⟩=>?_
      subst hr
      obtain ⟨m,hn,_⟩:=id I4.loc
      have IX:Inv X pins σ H3 s4:=by
        refine I2.call' (s':=s4) (ch:=fp) I4.os I4.base I4.hok I4.bare fun b hb=>?_
        obtain ⟨f0,f1,f3,f4,f5,f6⟩:=f2 b hb
        exact ⟨f4,f1,f5,f6⟩
      show wpAny _ X.A (assign (.Name y py) X.env (.ref s2.heap.objs.size)) _ _ s4
      refine wpAny_assign_Name (store_ok2 (v:=.ref s2.heap.objs.size) IX hN hy (.inl hly) rfl (fun s5 I5 zz=>?_) (.inr hly))
      obtain ⟨a5,sb5,ha5⟩:=zz
      have hCs:s2.heap.objs.size≤hp2.objs.size:=by rw [hC];exact Nat.le_succ _
      have neC5:hp2.objs.size ≠ a5:=by
        rcases ha5 with z | z
        · rw [z];exact Nat.ne_of_gt (Nat.lt_of_lt_of_le I2.lt hCs)
        · obtain ⟨v,zc⟩:=I2.cell y a5 z
          exact Nat.ne_of_gt (Nat.lt_of_lt_of_le zc.lt hCs)
      refine ⟨m,hn.sameBut sb5 neC5,fun h' hsb=>?_⟩
      refine ⟨_,H3,?_,qn⟩
      exact I5.turnedL (t':=s5.toks) (ch:=[hp2.objs.size]) (fun b hb=>by
        have e:b=hp2.objs.size:=by simpa using hb
        subst e
        exact I2.fpOk hCs I4.free) fun b o hb e=>hsb.extBut b o (by simpa using hb) e
    · refine thn (T.item (X.blk sc hp2.objs.size s2 H2 (X.pn ++ pins) fp NB) rfl rfl rfl hc i [] s3 _ H3 _ I3 (stat fr3) st3 go) fun r s4 ⟨u,hr,h4⟩=>?_
      subst hr
      refine thn h4 fun _ s5 zz=>?_
      obtain ⟨x,H5,I5,r5,y5,st5,fr5⟩:=zz
      have I5':=I5.pinned (stat fr5) (T.obj _ _ st5)
      have again:∀ {H7:Hp}{s7:Shared}{xs:List V}{ys':List V}{m':Nat},xs.length=ts.length→Inv (X.blk sc hp2.objs.size s2 H2 (X.pn ++ pins) fp NB) ([] ++ pinsAt fp s5.heap) (σ ++ xs.map some) H7 s7→m' < n→W (i + 1) m' ys' H7 →
          ∃ m,m < n∧∃ i ys tl H',tl.length=ts.length∧Inv (X.blk sc hp2.objs.size s2 H2 (X.pn ++ pins) fp NB) [] (σ ++ tl) H' s7∧tn i s7.heap∧(∀ b ∈ fp,H' b=none)∧W i m ys H':=fun {H7 s7 xs ys' m'} hxs I7 hm w7=>by
        refine ⟨m',hm,i + 1,ys',xs.map some,H7,by rw [List.length_map];exact hxs,I7.unpinned,T.keep _ _ _ st5 fun b hb o e=>(I7.pin (b,o) (List.mem_append_right _ (List.mem_append_right _ (mem_pinsAt hb e)))).1,fun b hb=>?_,w7⟩
        obtain ⟨o,e,d⟩:=T.obj _ _ st5 b hb
        exact (I7.pin (b,o) (List.mem_append_right _ (List.mem_append_right _ (mem_pinsAt hb e)))).2.1
      refine thn (hg _ _ _ _ _ _ s5 (σ ++ tl) H5 x u _ I5' r5 (ht σ tl x H5 _ hσ htl (step x H5 y5))) fun _ s6 zz=>?_
      obtain ⟨σ6,H6,I6,xs,hxs,e6,e7,q6⟩:=zz
      subst e6 e7
      refine thn (hf _ _ _ _ _ _ s6 _ _ _ I6 q6) fun b s7 zz=>?_
      obtain ⟨H7,I7,q7⟩:=zz
      cases b with
      | false =>
        obtain ⟨m',hm,w7⟩:=q7
        exact again hxs I7 hm w7
      | true =>
        refine thn (he _ _ _ _ _ _ s7 _ _ _ I7 q7) fun y s8 zz=>?_
        obtain ⟨v,H8,I8,r8,e8,l8,m',hm,w8⟩:=zz
        refine thn (mt_append (X:=X.blk sc hp2.objs.size s2 H2 (X.pn ++ pins) fp NB) _ s8 _ H8 (.ref s2.heap.objs.size) [v] (.ref s2.heap.objs.size) [y] (fun z H9=>z = .non∧H9=upd H8 s2.heap.objs.size (.lst (ys ++ [v]))) I8 rfl (.cons r8 .nil) ⟨_,ys,v,rfl,rfl,e8,l8,rfl,rfl⟩) fun z s9 zz=>?_
        obtain ⟨v9,H9,I9,r9,e9,e10⟩:=zz
        subst e10
        exact again hxs I9 hm w8
  exact codeAny_compStart_list loop (T.self X.A 0 _ _ _ (T.keep _ _ _ st2 fun b hb o e=>old b o e) loop)
/-! ### a word about the state, ahead of the rest -/
noncomputable def tPre (t:TS):TS:=fun D σ H=>(∃ P:St→Hp→Prop,P σ H∧∀ σ' H',P σ' H'→t D σ' H') ∨ False
theorem pss_pre {X:Cx}{sts:List Stmt}{t:TS} (h:PSs X sts t):PSs X sts (tPre t):=fun pins s σ H D I q=>by
  rcases q with ⟨P,p,k⟩ | z
  · exact h pins s σ H D I (k σ H p)
  · exact z.elim
theorem pre_by {t:TS}{D:Ends}{σ:St}{H:Hp} (P:St→Hp→Prop) (h0:P σ H) (h:∀ σ' H',P σ' H'→t D σ' H'):tPre t D σ H:=Or.inl ⟨P,h0,h⟩
/-! ### == and != of two tuples of one length -/
noncomputable def rEqT (K:PySem.W.Frag) (neg:Bool):R2:=fun x y H Q=>∃ a b xs ys,x = .ref a∧y = .ref b∧SqT K H a xs∧SqT K H b ys∧xs.length=ys.length∧okVs xs ys=true∧Q (.bl (if neg then !eqVs xs ys else eqVs xs ys)) H
theorem op_ne_tup {X:Cx} (hu:X.A.units < cLine):OpR X (compareOp .NotEq) (rEqT X.K true):=by
  intro pins s σ H x y v u Q I rx ry h
  obtain ⟨a,b,xs,ys,rfl,rfl,ha,hb,hl,ok,q⟩:=h
  cases (show v=Value.ref a from rx)
  cases (show u=Value.ref b from ry)
  obtain ⟨is1,r1,p1,z1⟩:=I.tuple ha
  obtain ⟨is2,r2,p2,z2⟩:=I.tuple hb
  have l1:=r1.length
  have l2:=r2.length
  have he:∀ j (h1:j < is1.toArray.size) (h2:j < is2.toArray.size),SeqAt.EqAt X.A.in1 s is1.toArray[j] is2.toArray[j] (resP (xs.getD j .non) (ys.getD j .non)):=fun j h1 h2=>by
    have j1:j < xs.length:=by simp at h1;omega
    have j2:j < ys.length:=by omega
    obtain ⟨u1,e1,w1⟩:=r1.get (List.getElem?_eq_getElem j1)
    obtain ⟨u2,e2,w2⟩:=r2.get (List.getElem?_eq_getElem j2)
    have g1:xs.getD j .non=xs[j]:=by rw [List.getD_eq_getElem?_getD,List.getElem?_eq_getElem j1];rfl
    have g2:ys.getD j .non=ys[j]:=by rw [List.getD_eq_getElem?_getD,List.getElem?_eq_getElem j2];rfl
    have k1:is1.toArray[j]=u1:=by
      have:=(List.getElem?_eq_some_iff.mp e1).2
      simpa using this
    have k2:is2.toArray[j]=u2:=by
      have:=(List.getElem?_eq_some_iff.mp e2).2
      simpa using this
    rw [k1,k2,g1,g2]
    exact eqP_at w1 w2 (okVs_at ok (List.getElem?_eq_getElem j1) (List.getElem?_eq_getElem j2))
  have hsz:((List.range (min is1.toArray.size is2.toArray.size)).all (fun j=>resP (xs.getD j .non) (ys.getD j .non)) && is1.toArray.size == is2.toArray.size)=eqVs xs ys:=by
    rw [List.size_toArray,List.size_toArray,← l1,← l2,← hl,Nat.min_self,eqVs_range hl,beq_self_eq_true,Bool.and_true]
  exact EqBoolInt.of_rcne (SeqAt.RcNeAt.tuples (e:=fun j=>resP (xs.getD j .non) (ys.getD j .non)) p1 p2 hu he) ⟨.bl (!eqVs xs ys),H,I,by rw [hsz];rfl,q⟩
end L2

set_option Elab.async false
set_option linter.all false
set_option maxRecDepth 100000
set_option maxHeartbeats 4000000
namespace L2
open PySem PySem.Spec PyProof.Rows
/-! ### how many, and where, of a list of truths -/
noncomputable def isTrueU:Value→Bool
  | .bool b=>b
  | _=>false
theorem bools_at {A:Around}{s:Shared}:∀ {bs:List Bool}{its:List Value},Vals (bs.map V.bl) its→its=bs.map Value.bool
  | [],_,r=>by rw [List.map_nil] at r;cases r;rfl
  | b :: bs,_,r=>by
    rw [List.map_cons] at r
    cases r with
    | cons h t =>
      cases h
      rw [bools_at (A:=A) (s:=s) t]
      rfl
theorem eq_true {A:Around}{s:Shared}{bs:List Bool}:∀ y,y ∈ (bs.map Value.bool).toArray→SeqAt.EqAt A s y (.bool true) (isTrueU y):=fun y hy=>by
  have hy:y ∈ bs.map Value.bool:=by simpa using hy
  obtain ⟨b,_,rfl⟩:=List.mem_map.mp hy
  have:=SeqAt.EqAt.bool_bool (A:=A) (s:=s) b true
  rw [show (b == true)=b by cases b <;> rfl] at this
  exact this
theorem countP_true:∀ (bs:List Bool),(bs.map Value.bool).countP isTrueU=bs.count true
  | []=>rfl
  | b :: bs=>by
    rw [List.map_cons,List.countP_cons,List.count_cons,countP_true bs]
    cases b <;> rfl
section
variable {X:Cx}
noncomputable def rCountB:V→List V→Hp→VK→Prop:=fun x vs H Q=>∃ (l:Addr) (bs:List Bool),x = .ref l∧vs = [.bl true]∧H l=some (.lst (bs.map V.bl))∧Q (.int ((bs.count true:Nat):Int)) H
theorem mt_count:MtM X "list.count" rCountB:=by
  intro pins s σ H x vs v us Q I rx rv h
  obtain ⟨l,bs,rfl,rfl,hH,q⟩:=h
  cases rx
  obtain ⟨u,rfl,ru⟩:=rv.one
  cases ru
  obtain ⟨z,its,n,r,hl,e⟩:=I.lstM hH
  have ei:=bools_at (A:=X.A) (s:=s) r
  subst ei
  refine call_meets F.slot_list_count ⟨_,e,rfl⟩ F.entry_list_count (F.args_list_count_2 _ _) (SeqAt.list_countAt l (bs.map Value.bool).toArray n none #[] (.bool true) isTrueU) ⟨e,eq_true,?_⟩
  refine ⟨.int ((bs.count true:Nat):Int),H,I.tok _,⟨s.toks,?_⟩,q⟩
  rw [← countP_true bs]
noncomputable def rIndexB:V→List V→Hp→VK→Prop:=fun x vs H Q=>∃ (l:Addr) (bs:List Bool) (j:Nat),x = .ref l∧vs = [.bl true]∧H l=some (.lst (bs.map V.bl))∧bs[j]?=some true∧(∀ m,m < j→bs[m]?=some false)∧Q (.int (j:Nat)) H
theorem mt_index:MtM X "list.index" rIndexB:=by
  intro pins s σ H x vs v us Q I rx rv h
  obtain ⟨l,bs,j,rfl,rfl,hH,hj,hno,q⟩:=h
  cases rx
  obtain ⟨u,rfl,ru⟩:=rv.one
  cases ru
  obtain ⟨z,its,n,r,hl,e⟩:=I.lstM hH
  have ei:=bools_at (A:=X.A) (s:=s) r
  subst ei
  have hlt:j < bs.length:=(List.getElem?_eq_some_iff.mp hj).1
  have hs:(bs.map Value.bool).toArray.size=bs.length:=by simp
  rw [List.length_map] at z
  rw [sizeLine_eq] at z
  have at_:∀ m (hm:m < (bs.map Value.bool).toArray.size),∀ b,bs[m]?=some b→isTrueU (bs.map Value.bool).toArray[m]=b:=fun m hm b hb=>by
    have h1:(bs.map Value.bool).toArray[m]=Value.bool b:=by
      obtain ⟨h2,h3⟩:=List.getElem?_eq_some_iff.mp hb
      rw [List.getElem_toArray,List.getElem_map,h3]
    rw [h1]
    rfl
  refine call_meets F.slot_list_index ⟨_,e,rfl⟩ F.entry_list_index (F.args_list_index_2 _ _) (SeqAt.list_indexAt l (bs.map Value.bool).toArray n none #[] (.bool true) isTrueU j (by omega) (by omega) (at_ j (by omega) true hj) (fun m hm hlt=>at_ m hm false (hno m hlt))) ⟨e,eq_true,?_⟩
  exact ⟨.int (j:Nat),H,I.tok _,⟨s.toks,rfl⟩,q⟩
end
end L2
namespace L2
open PySem PySem.Spec PyProof.Rows
/-! ### the sum of a tuple -/
end L2

set_option Elab.async false
set_option linter.all false
set_option maxRecDepth 100000
set_option maxHeartbeats 4000000
namespace L2
open PySem PySem.Spec PyProof.Rows
/-! ### texts: join, split, int of a text -/
theorem strs_of:∀ {ts:List Str}{its:List Value},Vals (ts.map V.str) its→∃ l:List (Str × Tok),its=strValues l∧l.map (·.1)=ts
  | [],_,r=>by rw [List.map_nil] at r;cases r;exact ⟨[],rfl,rfl⟩
  | x :: ts,_,r=>by
    rw [List.map_cons] at r
    cases r with
    | cons h t =>
      obtain ⟨u,rfl⟩:=h
      obtain ⟨l,e1,e2⟩:=strs_of t
      exact ⟨(x,u) :: l,by rw [e1];rfl,by rw [List.map_cons,e2]⟩
theorem vals_strs:∀ (l:List (Str × Tok)),Vals ((l.map (·.1)).map V.str) (strValues l)
  | []=>.nil
  | (x,u) :: l=>.cons ⟨u,rfl⟩ (vals_strs l)
section
variable {X:Cx}
noncomputable def rJoin:V→List V→Hp→VK→Prop:=fun x vs H Q=>∃ (z:Str) (D:Addr) (ts:List Str),x = .str z∧vs = [.ref D]∧H D=some (.lst (ts.map V.str))∧JoinOk z ts=true∧Q (.str (Txt.join z ts)) H
theorem mt_join:MtM X "str.join" rJoin:=by
  intro pins s σ H x vs v us Q I rx rv h
  obtain ⟨z,D,ts,rfl,rfl,hH,hok,q⟩:=h
  obtain ⟨t,rfl⟩:=rx
  obtain ⟨u,rfl,ru⟩:=rv.one
  cases ru
  obtain ⟨zz,its,n,r,hl,e⟩:=I.lstM hH
  obtain ⟨l,rfl,el⟩:=strs_of r
  refine SC.join (l:=l) (texts:=ts) ⟨_,e,rfl,n,rfl⟩ el hok fun t' k=>⟨.str (Txt.join z ts),H,I.tok _,⟨t',rfl⟩,q⟩
noncomputable def rSplit:V→List V→Hp→VK→Prop:=fun x vs H Q=>∃ (z y:Str),x = .str z∧vs = [.str y]∧(y.length == 0)=false∧z.length≤100000 ∧
  ∀ p,H p=none→Q (.ref p) (upd H p (.lst ((Txt.split z y).map V.str)))
theorem mt_split:MtM X "str.split" rSplit:=by
  intro pins s σ H x vs v us Q I rx rv h
  obtain ⟨z,y,rfl,rfl,hy,hz',q⟩:=h
  have hz:z.length≤sizeLine:=by rw [sizeLine_eq];omega
  have hz2:(Builtin.Str.partsBetween z (Builtin.Str.occurrences z y 0 z.length (z.length + 1)) y.length).length≤sizeLine:=by
    have:=StrLaws.occ_length_le z y 0 z.length (z.length + 1)
    rw [PyProof.Rows.len_partsBetween,sizeLine_eq]
    omega
  have hz3:(Txt.split z y).length≤sizeLine:=by
    have:=PyProof.Rows.split_le z y
    rw [sizeLine_eq]
    omega
  obtain ⟨t,rfl⟩:=rx
  obtain ⟨u,rfl,ru⟩:=rv.one
  obtain ⟨t2,rfl⟩:=ru
  have fin:∀ (l:List (Str × Tok)) (tk:Nat),l.map (·.1)=Txt.split z y→EP X pins σ Q (.ref s.heap.objs.size) { s with heap:=s.heap.push { cls:=.type "list",data:=.seq (strValues l).toArray },toks:=tk }:=fun l tk el =>
    ⟨.ref s.heap.objs.size,_,I.lnew (ys:=(Txt.split z y).map V.str) (its:=strValues l) (by rw [← el];exact vals_strs l) (by rw [List.length_map];exact hz3),rfl,q _ I.fresh⟩
  by_cases c1:(decide (z.length < y.length) || decide (Builtin.Str.strKind z < Builtin.Str.strKind y))=true
  · have e:Txt.split z y = [z]:=if_pos c1
    exact call_meets F.slot_str_split (typeIs_str _ _ _) F.entry_str_split (F.args_str_split_2 _ _) (meets_str_split_cannot_occur z y t t2 c1) (fin [(z,t)] _ e.symm)
  · have d1:=Bool.eq_false_iff.mpr c1
    by_cases c2:(Builtin.Str.occurrences z y 0 z.length (z.length + 1)).isEmpty=true
    · have e:Txt.split z y = [z]:=(if_neg c1).trans (if_pos c2)
      exact call_meets F.slot_str_split (typeIs_str _ _ _) F.entry_str_split (F.args_str_split_2 _ _) (meets_str_split_not_found z y t t2 d1 hy c2) (fin [(z,t)] _ e.symm)
    · have d2:=Bool.eq_false_iff.mpr c2
      have e:Txt.split z y=Builtin.Str.partsBetween z (Builtin.Str.occurrences z y 0 z.length (z.length + 1)) y.length:=(if_neg c1).trans (if_neg c2)
      refine call_meets F.slot_str_split (typeIs_str _ _ _) F.entry_str_split (F.args_str_split_2 _ _) (meets_str_split_sep z y t t2 d1 hy d2 hz hz2) ?_
      have:=fin (numbered s.toks (Builtin.Str.partsBetween z (Builtin.Str.occurrences z y 0 z.length (z.length + 1)) y.length)) (s.toks + (Builtin.Str.partsBetween z (Builtin.Str.occurrences z y 0 z.length (z.length + 1)) y.length).length) ((numbered_texts _ _).trans e.symm)
      rw [← strsFrom_eq] at this
      exact this
theorem call_intS:CallR X (.type "int") (fun xs H Q=>∃ (z:Str) (n:Int),xs = [.str z]∧PySem.intText? z=some n∧z.length≤640∧Q (.int n) H):=by
  intro pins s σ H xs us Q I r h
  obtain ⟨z,n,rfl,hn,hl,q⟩:=h
  obtain ⟨u,rfl,ru⟩:=vals1 r
  obtain ⟨t,rfl⟩:=ru
  exact PySem.W.KIN.call_text hn hl ⟨.int n,H,I.tok _,⟨s.toks,rfl⟩,q⟩
end
end L2

set_option Elab.async false
set_option linter.all false
set_option maxRecDepth 100000
set_option maxHeartbeats 4000000
namespace L2
open PySem PySem.Spec PyProof.Rows
/-! ### over the signs of a text -/
noncomputable def Its (z:Str):It:=⟨fun i _=>i < z.cps.size,fun i H x H'=>H'=H∧∃ c,z.cps[i]?=some c∧x = .str ⟨#[c]⟩,fun i _=>i=z.cps.size⟩
theorem go_str {M:Model}{A:Around}{E:Value→Shared→Prop}{s:Shared}{tg:Expr}{it:Addr}{z:Str}{t:Tok}{Q:Unit→Shared→Prop} (hQ:Q () s):wpAny M A (letOwnedTupleGo tg (.ref it) (.str z t)) Q E s:=by
  unfold letOwnedTupleGo
  cases tg <;> exact wpAny_pure hQ
theorem turn_str {P:Program}{w:World}{K:PySem.W.Frag}{tg:Expr}{it:Addr}{z:Str}{t:Tok}{ty:String} (W:∀ A:Around,A.handled=none→Walks P w A it [it] [it] z.cps.size (SignAt z) (fun i h=>h.IsStrIter it ty z t i))
    (sf:∀ (A:Around) (i:Nat) (s:Shared) (Q:Value→Shared→Prop) (E:Value→Shared→Prop),s.heap.IsStrIter it ty z t i→Q (.ref it) s→wpAny (model P w) A (pyIter (.ref it)) Q E s) :
    Turn P w K tg (Its z) [it] it (fun i h=>h.IsStrIter it ty z t i) where
  mem:=by simp
  obj:=fun i h st b hb=>by
    have e:b=it:=by simpa using hb
    subst e
    obtain ⟨o,e,c,d⟩:=st
    exact ⟨o,e,fun v q=>by rw [d] at q;cases q⟩
  keep:=fun i h h' st k=>by
    obtain ⟨o,e,r⟩:=st
    exact ⟨o,k it (by simp) o e,r⟩
  item:=by
    intro X hP hw hK hc i pins s σ H E I hf st hg
    subst hP hw hK
    obtain ⟨f0,f1,f2,f3,f4,f5⟩:=hf it (by simp)
    refine (W X.A (I.ok.hd hc)).item i s _ _ hg st fun v h' tk hv st' kk=>?_
    obtain ⟨c,u,hc',rfl⟩:=hv
    have I1:Inv X pins σ H { s with heap:=h',toks:=tk }:=I.turned (t':=tk) (fun b o hb e=>kk b o (by simpa using hb) e) f0 f1 f3 f4 f5
    exact ⟨_,rfl,go_str ⟨.str ⟨#[c]⟩,H,I1,⟨u,rfl⟩,⟨rfl,c,hc',rfl⟩,st',fun b hb=>(hf b hb).1⟩⟩
  done:=by
    intro X hP hw hK hc i pins s σ H E I hf st hg
    subst hP hw hK
    obtain ⟨f0,f1,f2,f3,f4,f5⟩:=hf it (by simp)
    refine (W X.A (I.ok.hd hc)).done s _ _ (hg ▸ st) fun h' tk kk=>⟨rfl,I.turned (t':=tk) (fun b o hb e=>kk b o (by simpa using hb) e) f0 f1 f3 f4 f5⟩
  self:=sf
noncomputable def iStr (tl:TE):TI:=fun σ H R=>tl σ H fun x H1=>∃ z,x = .str z∧R (Its z) H1
theorem pi_str {X:Cx}{tg l:Expr}{tl:TE} (hl:PE X l tl):PI X tg l (iStr tl):=by
  intro pins s σ H R I h
  refine thn (hl pins s σ H _ I h) fun v s1 zz=>?_
  obtain ⟨x,H1,I1,r1,q1⟩:=zz
  obtain ⟨z,rfl,q⟩:=q1
  obtain ⟨t,rfl⟩:=r1
  have fp:∀ b ∈ [s1.heap.objs.size],FpOk X pins H1 b:=fun b hb=>by
    have e:b=s1.heap.objs.size:=by simpa using hb
    subst e
    exact I1.fpOk (Nat.le_refl _) (I1.hok.fresh (Nat.le_refl _))
  cases ha:z.cps.all (· < 128)
  · exact wpAny_pyIter_wide ha ⟨s1.heap.objs.size,[s1.heap.objs.size],_,_,H1,rfl,I1.kept (t':=s1.toks) fun b o e=>Heap.get?_push_of_some _ e,turn_str (fun A hA=>Walks.strWide hA _ z t) (fun A i s Q E st h=>wpAny_pyIter_striter_wide st h),⟨_,Heap.get?_push_size _ rfl,rfl,rfl⟩,fp,q⟩
  · exact wpAny_pyIter_ascii ha ⟨s1.heap.objs.size,[s1.heap.objs.size],_,_,H1,rfl,I1.kept (t':=s1.toks) fun b o e=>Heap.get?_push_of_some _ e,turn_str (fun A hA=>Walks.strAscii hA _ z t) (fun A i s Q E st h=>wpAny_pyIter_striter_ascii st h),⟨_,Heap.get?_push_size _ rfl,rfl,rfl⟩,fp,q⟩
theorem comp_str {z:Str}{c:TC}{tif:TT}{te:TE}{σ:St}{Q:VK}{acc:Addr}{H0:Hp} (Pv:Nat→List V→Hp→Prop) (h0:Pv 0 [] H0)
    (hs:∀ i d ys H,i < z.cps.size→z.cps[i]?=some d→Pv i ys H→c (.str ⟨#[d]⟩) H fun vs=>tif (σ ++ vs.map some) H fun b H3=>if b=true then te (σ ++ vs.map some) H3 fun v H4=>H4 acc=some (.lst ys)∧ys.length < sizeLine∧∃ m',m' < z.cps.size - i∧m'=z.cps.size - (i + 1)∧i + 1≤z.cps.size∧Pv (i + 1) (ys ++ [v]) (upd H4 acc (.lst (ys ++ [v])))
      else ∃ m',m' < z.cps.size - i∧m'=z.cps.size - (i + 1)∧i + 1≤z.cps.size∧Pv (i + 1) ys H3) (hd:∀ ys H,Pv z.cps.size ys H→Q (.ref acc) H) :
    CompR (Its z) c tif te σ Q acc H0:=by
  refine ⟨fun i m ys H=>m=z.cps.size - i∧i≤z.cps.size∧Pv i ys H,⟨z.cps.size,by simp,Nat.zero_le _,h0⟩,?_⟩
  rintro i m ys H ⟨rfl,hi,p⟩
  by_cases hlt:i < z.cps.size
  · refine .inr ⟨hlt,fun x H' hy=>?_⟩
    obtain ⟨rfl,d,hd',rfl⟩:=hy
    exact hs i d ys _ hlt hd' p
  · have e:i=z.cps.size:=by omega
    exact .inl ⟨e,hd ys H (e ▸ p)⟩
end L2

set_option Elab.async false
set_option linter.all false
set_option maxRecDepth 100000
set_option maxHeartbeats 4000000
namespace L2
open PySem PySem.Spec PyProof.Rows
/-! ### a tuple's iterator within enumerate and zip -/
section
variable {prog:Program}{w:World}{A:Around}{E:Value→Shared→Prop}{s:Shared}
theorem nextT_item {it a:Addr}{i:Nat}{its:Array Value}{x:Value}{Q:Value→Shared→Prop} (hit:s.heap.IsTupleIter it a i) (ht:s.heap.IsTuple a its) (hx:its[i]?=some x)
    (q:∀ h',h'.IsTupleIter it a (i + 1)→Heap.SameBut it s.heap h'→Q x { s with heap:=h' }):wpAny (model prog w) A (Builtin.SmallTypes.nextOf (.ref it)) Q E s:=by
  obtain ⟨ob,g1,g2,g3⟩:=id hit
  obtain ⟨tb,k1,_,kn,k2⟩:=ht
  unfold Builtin.SmallTypes.nextOf;refine wpAny_bind (wpAny_callSpecial?_slot (name:=Str.ofString "__next__") hit.typeIs F.slot_tuple_iterator_next (wpAny_call_entry F.slot_tuple_iterator_next hit.typeIs F.entry_tuple_iterator_next ?_ (F.args_tuple_iterator_next_1 _)))
  show wpAny _ _ (field (.ref it) 0 >>= _) _ _ s;refine wpAny_bind (wpAny_field g1 g3 (x:=.ref a) rfl ?_)
  show wpAny _ _ (if (Value.ref a == Value.none)=true then _ else _) _ _ s;rw [if_neg (show ¬ ((Value.ref a == Value.none)=true) from Bool.false_ne_true)]
  show wpAny _ _ (field (.ref it) 1 >>= _) _ _ s;refine wpAny_bind (wpAny_field g1 g3 (x:=.int i 0) rfl ?_)
  show wpAny _ _ (seqItems? (.ref a) >>= _) _ _ s;refine wpAny_bind (wpAny_seqItems k1 k2 ?_)
  simp only [hx,Int.toNat_natCast]
  refine wpAny_bind (wpAny_setField g1 g3 (by simp) (wpAny_pure ⟨x,rfl,wpAny_pure (q _ ?_ (Heap.SameBut.update ..))⟩))
  refine ⟨_,Heap.get?_update_self _ g1 (Obj.isFreed_of_fields (Obj.data_mapFields g3 _)),(Obj.cls_mapFields ..).trans g2,?_⟩
  rw [Obj.data_mapFields g3];simp [rawInt]
theorem nextT_end {it a:Addr}{i:Nat}{its:Array Value}{Q:Value→Shared→Prop} (hh:A.handled=none) (hit:s.heap.IsTupleIter it a i) (ht:s.heap.IsTuple a its) (hx:its[i]?=none)
    (q:∀ h' e,Heap.ExtBut it s.heap h'→(∃ o,h'.get? e=some o∧o.cls = .type "StopIteration")→E (.ref e) { s with heap:=h' }):wpAny (model prog w) A (Builtin.SmallTypes.nextOf (.ref it)) Q E s:=by
  obtain ⟨ob,g1,g2,g3⟩:=id hit
  obtain ⟨tb,k1,_,kn,k2⟩:=ht
  unfold Builtin.SmallTypes.nextOf;refine wpAny_bind (wpAny_callSpecial?_slot (name:=Str.ofString "__next__") hit.typeIs F.slot_tuple_iterator_next (wpAny_call_entry F.slot_tuple_iterator_next hit.typeIs F.entry_tuple_iterator_next ?_ (F.args_tuple_iterator_next_1 _)))
  show wpAny _ _ (field (.ref it) 0 >>= _) _ _ s;refine wpAny_bind (wpAny_field g1 g3 (x:=.ref a) rfl ?_)
  show wpAny _ _ (if (Value.ref a == Value.none)=true then _ else _) _ _ s;rw [if_neg (show ¬ ((Value.ref a == Value.none)=true) from Bool.false_ne_true)]
  show wpAny _ _ (field (.ref it) 1 >>= _) _ _ s;refine wpAny_bind (wpAny_field g1 g3 (x:=.int i 0) rfl ?_)
  show wpAny _ _ (seqItems? (.ref a) >>= _) _ _ s;refine wpAny_bind (wpAny_seqItems k1 k2 ?_)
  simp only [hx,Int.toNat_natCast]
  refine wpAny_bind (wpAny_rule (wpAny_bind (wpAny_setField g1 g3 (by simp) ?_)))
  show wpAny _ _ (newExc (.type "StopIteration") [] >>= _) _ _ _;refine wpAny_bind ?_
  simp only [newTuple,newExc]
  refine wpAny_bind (wpAny_newObj_type ?_ (by size_fits));refine wpAny_bind (m:=firstArgMember _ _) (wpAny_of_eq (a:=Value.none) (by first | rfl | (simp only [firstArgMember];rfl)) ?_)
  refine wpAny_newObj_type ?_ (by size_fits);simp only [raiseNew]
  refine wpAny_bind (wpAny_handled ?_);first | rw [show A.in1.handled=none from hh] | rw [hh]
  refine wpAny_bind (wpAny_pure (wpAny_throw ?_))
  exact q _ _ (((Heap.SameBut.update ..).extBut.push _).push _) ⟨_,Heap.get?_push_size _ rfl,rfl⟩
end
theorem draws_tup {prog:Program}{w:World}{A:Around} (hh:A.handled=none) (it a:Addr) (hne:a ≠ it) (its:Array Value):Draws prog w A it [it,a] its.size (fun i v=>its[i]?=some v) (fun i h=>h.IsTupleIter it a i∧h.IsTuple a its) where
  live:=fun i h st=>by obtain ⟨⟨o,e,_⟩,_⟩:=st;exact ⟨o,e⟩
  frame:=fun i h h' st k=>by
    obtain ⟨⟨o,e,r⟩,⟨o2,e2,r2⟩⟩:=st
    exact ⟨⟨o,k it (by simp) o e,r⟩,⟨o2,k a (by simp) o2 e2,r2⟩⟩
  item:=fun i s Q E hi st q=>by
    refine nextT_item st.1 st.2 (x:=its[i]) (by simp [hi]) fun h' t' sb=>?_
    exact q _ h' s.toks (by simp [hi]) ⟨t',st.2.extBut sb.extBut hne⟩ sb
  done:=fun s Q E st q=>nextT_end hh st.1 st.2 (by simp) q
end L2

set_option Elab.async false
set_option linter.all false
set_option maxRecDepth 100000
set_option maxHeartbeats 4000000
namespace L2
open PySem PySem.Spec PyProof.Rows
open AutoSeq1 (wpAny_loadPart')
/-! ### enumerate of a tuple -/
theorem enum_newT (a:Addr) (its:Array Value) (n:Nat) (dd:Option Addr) (sl:Array (Option Value)) :
    Meets (Builtin.«enumerate.__new__» ⟨[.type "enumerate",.ref a],[]⟩) (fun _ R s=>s.heap.get? a=some { cls:=.type "tuple",dict:=dd,data:=.seq its n,slots:=sl } ∧
      R (.ok (.ret (.ref (s.heap.push { cls:=.type "tuple_iterator",data:=.fields #[.ref a,.int 0 0] }).objs.size)))
        { s with heap:=(s.heap.push { cls:=.type "tuple_iterator",data:=.fields #[.ref a,.int 0 0] }).push { cls:=.type "enumerate",data:=.fields #[.none,.bool false,.ref s.heap.objs.size,rawInt 0,.none,.none] } }):=
  .of_wp fun prog w A R s h=>by
    obtain ⟨hp,g,d,tk,os⟩:=s;obtain ⟨ha,h⟩:=h
    have sb:=sub_enumerate
    have hT:Heap.IsTuple (Shared.heap ⟨hp,g,d,tk,os⟩) a its:=⟨_,ha,rfl,n,rfl⟩
    wp_walk using wpAny_loadPart' ha
    refine wpAny_stack_any fun st=>wpAny_pure ?_
    split
    · rename_i c _ _ _ _ _
      cases (c == Value.type "enumerate")
      · wp_walk using wpAny_loadPart' ha,wpAny_pyIter_tuple hT
        exact ⟨_,rfl,h⟩
      · wp_walk using wpAny_loadPart' ha,wpAny_pyIter_tuple hT
        exact ⟨_,rfl,h⟩
    · wp_walk using wpAny_loadPart' ha,wpAny_pyIter_tuple hT
      exact ⟨_,rfl,h⟩
section
variable {prog:Program}{w:World}{A:Around}{E:Value→Shared→Prop}{s:Shared}
theorem call_enumT {a:Addr}{its:Array Value}{Q:Value→Shared→Prop} (hT:s.heap.IsTuple a its)
    (q:∀ h',IsEnum h' (s.heap.objs.size + 1) s.heap.objs.size 0 .none→h'.IsTupleIter s.heap.objs.size a 0→(∀ b o,s.heap.get? b=some o→h'.get? b=some o)→Q (.ref (s.heap.objs.size + 1)) { s with heap:=h' }) :
    wpAny (model prog w) A (call (.type "enumerate") [.ref a]) Q E s:=by
  obtain ⟨⟨c,dd,dt,sl⟩,ha,hc,n,hd⟩:=hT
  obtain rfl:c = .type "tuple":=hc
  obtain rfl:dt = .seq its n:=hd
  refine callType_new F.called_enumerate (by decide) (F.typeCall_enumerate_1 _) (F.newCall_enumerate_1 _) (fun obj=>F.args_object_init_2 obj _) F.entry_enumerate_new (enum_newT a its n dd sl) ⟨ha,?_⟩
  have sz:(s.heap.push { cls:=.type "tuple_iterator",data:=.fields #[.ref a,.int 0 0] }).objs.size=s.heap.objs.size + 1:=Heap.size_push ..
  show _∧_
  rw [sz]
  have he:IsEnum ((s.heap.push { cls:=.type "tuple_iterator",data:=.fields #[.ref a,.int 0 0] }).push { cls:=.type "enumerate",data:=.fields #[.none,.bool false,.ref s.heap.objs.size,rawInt 0,.none,.none] }) (s.heap.objs.size + 1) s.heap.objs.size 0 .none:=by
    have:=Heap.get?_push_size (s.heap.push { cls:=.type "tuple_iterator",data:=.fields #[.ref a,.int 0 0] }) (o:={ cls:=.type "enumerate",data:=.fields #[.none,.bool false,.ref s.heap.objs.size,rawInt 0,.none,.none] }) rfl
    rw [sz] at this;exact this
  exact ⟨⟨_,he,rfl⟩,q _ he ⟨_,Heap.get?_push_of_some _ (Heap.get?_push_size _ rfl),rfl,rfl⟩ fun b o x=>Heap.get?_push_of_some _ (Heap.get?_push_of_some _ x)⟩
end
noncomputable def Ite (K:PySem.W.Frag) (a:Addr):It:=
  ⟨fun i H=>∃ xs x,SqT K H a xs∧xs[i]?=some x,
   fun i H v H'=>∃ T x,H T=none∧v = .ref T∧(∀ xs,SqT K H a xs→xs[i]?=some x)∧H'=upd H T (.tup [.int i,x]),
   fun i H=>∃ xs,SqT K H a xs∧i=xs.length⟩
theorem turn_enum {P:Program}{w:World}{K:PySem.W.Frag}{elts:List Expr}{k:Nat}{pos:Pos}{e it a:Addr} (hei:e ≠ it) (hae:a ≠ e) (hai:a ≠ it) :
    Turn P w K (.Tuple elts k pos) (Ite K a) [e,it] e (fun i h=>(∃ old,IsEnum h e it i old)∧h.IsTupleIter it a i) where
  mem:=by simp
  obj:=fun i h st b hb=>by
    obtain ⟨⟨old,he⟩,⟨o,e1,c,d⟩⟩:=st
    simp at hb
    rcases hb with rfl | rfl
    · exact ⟨_,he,fun v q=>nomatch q⟩
    · exact ⟨o,e1,fun v q=>by rw [d] at q;cases q⟩
  keep:=fun i h h' st kk=>by
    obtain ⟨⟨old,he⟩,⟨o,e1,r⟩⟩:=st
    exact ⟨⟨old,kk e (by simp) _ he⟩,⟨o,kk it (by simp) o e1,r⟩⟩
  item:=by
    intro X hP hw hK hc i pins s σ H E I hf st hg
    subst hP hw hK
    obtain ⟨xs,x,hx,ex⟩:=hg
    obtain ⟨its,rv,p,z1⟩:=I.tuple hx
    obtain ⟨u,eu,ru⟩:=rv.get ex
    have hh:X.A.in1.handled=none:=I.ok.hd hc
    have W:=WalksT.enumerateD (prog:=X.prog) (w:=X.w) (A:=X.A) (draws_tup hh it a hai its.toArray) e hei (by simp;exact ⟨hei,hae.symm⟩) (by simp)
    have hn:i < its.toArray.size:=by
      have:=(List.getElem?_eq_some_iff.mp eu).1
      simpa using this
    refine W.item i s _ _ hn ⟨st.1,st.2,p⟩ fun T vals h' tk hPt hnew hT hMid kk=>?_
    refine ⟨.ref T,rfl,?_⟩
    refine W.go elts k pos i T _ _ _ hMid fun h'' st'' kk2=>?_
    obtain ⟨tt,x',ex',rfl⟩:=hPt
    obtain rfl:x'=u:=by
      have:its[i]?=some x':=by simpa using ex'
      rw [eu] at this;exact (Option.some.inj this).symm
    have hTw:=W.apart i T _ hMid
    have k3:∀ b o,b ∉ [e,it]→s.heap.get? b=some o→h''.get? b=some o:=fun b o hb q=>kk2 b o hb (kk b o hb q)
    have nT:H T=none:=I.hok.fresh hnew
    obtain ⟨oT,eT,cT,nn,dT⟩:=hT
    have eT2:h''.get? T=some oT:=kk2 T oT hTw eT
    have ok:ObjOk X.prog X.w (upd H T (.tup [.int i,x])) h'' T (.tup [.int i,x]):=⟨by show 2≤sizeLine;decide,[.int i tt,x'],.cons ⟨tt,rfl⟩ (.cons ru .nil),oT,eT2,cT,nn,by simpa using dT⟩
    have I2:Inv X pins σ (upd H T (.tup [.int i,x])) { s with heap:=h'',toks:=tk }:=I.turnedNew (ch:=[e,it]) (fun b hb=>hf b hb) k3 hnew ok
    have hob:∀ b ∈ [e,it],∃ o,s.heap.get? b=some o:=fun b hb=>by
      obtain ⟨⟨old,he⟩,⟨o,e1,r⟩⟩:=st
      simp at hb
      rcases hb with rfl | rfl
      · exact ⟨_,he⟩
      · exact ⟨o,e1⟩
    refine ⟨.ref T,upd H T (.tup [.int i,x]),I2,rfl,⟨T,x,nT,rfl,fun vs hv=>by rw [I.tuple_inj hv hx];exact ex,rfl⟩,⟨st''.1,st''.2.1⟩,fun b hb=>?_⟩
    rw [upd_ne ?_]
    · exact (hf b hb).1
    · intro zz
      obtain ⟨o,eo⟩:=hob b hb
      exact absurd (Nat.lt_of_lt_of_le (Heap.lt_size eo) (zz ▸ hnew)) (Nat.lt_irrefl _)
  done:=by
    intro X hP hw hK hc i pins s σ H E I hf st hg
    subst hP hw hK
    obtain ⟨xs,hx,ei⟩:=hg
    obtain ⟨its,rv,p,z1⟩:=I.tuple hx
    have hh:X.A.in1.handled=none:=I.ok.hd hc
    have W:=WalksT.enumerateD (prog:=X.prog) (w:=X.w) (A:=X.A) (draws_tup hh it a hai its.toArray) e hei (by simp;exact ⟨hei,hae.symm⟩) (by simp)
    have l1:=rv.length
    have hn:i=its.toArray.size:=by simp;omega
    refine W.done s _ _ (hn ▸ ⟨st.1,st.2,p⟩) fun h' tk kk=>⟨rfl,?_⟩
    exact I.turnedL (ch:=[e,it]) (fun b hb=>hf b hb) kk
  self:=fun _ _ _ _ _ st h=>by
    obtain ⟨⟨old,he⟩,_⟩:=st
    exact wpAny_pyIter_enum he h
noncomputable def iEnum (K:PySem.W.Frag) (ta:TA):TI:=fun σ H R=>ta σ H fun vs H1=>∃ a:Addr,vs = [.ref a]∧(∃ xs,SqT K H1 a xs)∧R (Ite K a) H1
theorem pi_enum {X:Cx}{elts:List Expr}{k:Nat}{tpos:Pos}{a:Expr}{ta:TA}{p pos:Pos} (hg:Gl X "enumerate") (hm:X.mg "enumerate"=none) (ha:PA X [a] ta) (hs:starEach [a] X.env = [(false,eval a X.env)]:=by rfl) (hs2:starEach [] X.env = []:=by rfl) :
    PI X (.Tuple elts k tpos) (.Call (.Name "enumerate" p) [a] [] pos) (iEnum X.K ta):=by
  intro pins s σ H R I h
  refine Call_ (ld_blt I hg hm (show bootBuiltins "enumerate"=some (.type "enumerate") by decide +kernel) (PyProof.Rows.callWith_type1 (thn (ha pos pins s σ H _ I h) fun us s1 zz=>?_) (by rw [hs,hs2]) (by rw [hs2];rfl)))
  obtain ⟨vs,H1,I1,r1,q1⟩:=zz
  obtain ⟨l1,e,⟨xs,hx⟩,q⟩:=q1
  subst e
  obtain ⟨u,rfl,ru⟩:=vals1 r1
  cases (show u=Value.ref l1 from ru)
  obtain ⟨its,rv,p1,z1⟩:=I1.tuple hx
  have hlt:l1 < s1.heap.objs.size:=by
    obtain ⟨o1,e1,_⟩:=id (show s1.heap.IsTuple l1 its.toArray from p1)
    exact Heap.lt_size e1
  refine call_enumT (show s1.heap.IsTuple l1 its.toArray from p1) fun h' he hi hk=>?_
  refine wpAny_pyIter_enum he ?_
  refine ⟨s1.heap.objs.size + 1,[s1.heap.objs.size + 1,s1.heap.objs.size],_,_,H1,rfl,I1.kept (t':=s1.toks) hk,turn_enum (Nat.succ_ne_self _) (Nat.ne_of_lt (Nat.lt_succ_of_lt hlt)) (Nat.ne_of_lt hlt),⟨⟨_,he⟩,hi⟩,fun b hb=>?_,q⟩
  have hb':s1.heap.objs.size≤b:=by
    simp at hb
    rcases hb with rfl | rfl <;> first | exact Nat.le_succ _ | exact Nat.le_refl _
  exact I1.fpOk hb' (I1.hok.fresh hb')
theorem for_enum {K:PySem.W.Frag}{a:Addr}{xs:List V}{g:TG}{tb:TS}{D:Ends}{σ:St}{H:Hp} (Pv:Nat→St→Hp→Prop) (h0:Pv 0 σ H) (hl:∀ i σ H,i≤xs.length→Pv i σ H→SqT K H a xs)
    (hs:∀ i x T σ H,xs[i]?=some x→Pv i σ H→H T=none→g (.ref T) σ (upd H T (.tup [.int i,x])) fun σ2 H2=>tb { D with nx:=Pv (i + 1),ct:=Pv (i + 1),bk:=D.nx } σ2 H2) (hd:∀ σ H,Pv xs.length σ H→D.nx σ H) :
    ∃ W:Nat→Nat→St→Hp→Prop,(∃ m,W 0 m σ H)∧∀ i m σ H,W i m σ H →
      ((Ite K a).stop i H∧D.nx σ H) ∨ ((Ite K a).go i H∧∃ N:St→Hp→Prop,(∀ σ' H',N σ' H'→∃ m',m' < m∧W (i + 1) m' σ' H')∧∀ x H',(Ite K a).yld i H x H'→g x σ H' fun σ2 H2=>tb { D with nx:=N,ct:=N,bk:=D.nx } σ2 H2):=by
  refine ⟨fun i m σ H=>m=xs.length - i∧i≤xs.length∧Pv i σ H,⟨xs.length,by simp,Nat.zero_le _,h0⟩,?_⟩
  rintro i m σ H ⟨rfl,hi,p⟩
  have q:=hl i σ H hi p
  by_cases hlt:i < xs.length
  · refine .inr ⟨⟨xs,xs[i],q,by simp [hlt]⟩,Pv (i + 1),fun σ' H' p'=>⟨xs.length - (i + 1),by omega,rfl,hlt,p'⟩,fun v H' y=>?_⟩
    obtain ⟨T,x,nT,rfl,hx,rfl⟩:=y
    exact hs i x T σ H (hx xs q) p nT
  · have e:i=xs.length:=by omega
    subst e
    exact .inl ⟨⟨xs,q,rfl⟩,hd σ H p⟩
end L2

set_option Elab.async false
set_option linter.all false
set_option maxRecDepth 100000
set_option maxHeartbeats 4000000
namespace L2
open PySem PySem.Spec PyProof.Rows
/-! ### zip of a tuple and a list -/
section
variable {prog:Program}{w:World}{A:Around}{E:Value→Shared→Prop}{s:Shared}
theorem zt_item {z TI TO i1 i2 l1 l2:Addr}{m n:Nat}{xs ys:Array Value}{x y a b:Value}{Q:Value→Shared→Prop} (D:ZipApart z TI TO i1 i2 l1 l2)
    (gz:IsZip s.heap z TI TO .none) (gi:IsPair s.heap TI (.ref i1) (.ref i2)) (go:IsPair s.heap TO a b) (g1:s.heap.IsTupleIter i1 l1 m) (g2:s.heap.IsListIter i2 l2 n) (t1:s.heap.IsTuple l1 xs) (t2:s.heap.IsList l2 ys) (ex:xs[m]?=some x) (ey:ys[n]?=some y)
    (q:∀ h',IsZip h' z TI TO (rawInt s.heap.objs.size)→IsPair h' TO x y→h'.IsTupleIter i1 l1 (m + 1)→h'.IsListIter i2 l2 (n + 1)→IsPair h' s.heap.objs.size x y→(∀ c o,c ≠ z→c ≠ TO→c ≠ i1→c ≠ i2→s.heap.get? c=some o→h'.get? c=some o)→Q (.ref s.heap.objs.size) { s with heap:=h' }) :
    wpAny (model prog w) A (Builtin.«zip.__next__» ⟨[.ref z],[]⟩) (fun fin s'=>∃ v,fin = .done (.ret v)∧Q v s') E s:=by
  show wpAny _ _ (field (.ref z) 2 >>= _) _ _ _;refine wpAny_bind (wpAny_field gz rfl (x:=.bool false) rfl ?_)
  show wpAny _ _ (field (.ref z) 3 >>= _) _ _ _;refine wpAny_bind (wpAny_field gz rfl (x:=.ref TI) rfl ?_)
  refine wpAny_bind (wpAny_seqItems gi rfl ?_)
  show wpAny _ _ (Builtin.SmallTypes.ownedTupleIsFree (.ref z) >>= _) _ _ _;refine wpAny_bind ?_
  unfold Builtin.SmallTypes.ownedTupleIsFree;refine wpAny_bind (wpAny_field gz rfl (x:=.none) rfl (wpAny_pure ?_))
  simp only [if_true];refine wpAny_bind (wpAny_rule ?_)
  refine wpAny_bind (wpAny_field gz rfl (x:=.ref TO) rfl ?_)
  refine wpAny_bind (wpAny_setField_rec gz (by simp) fun a1 z1 s1=>?_)
  replace z1:IsZip a1 z TI TO .ellipsis:=z1
  refine wpAny_bind ?_
  simp only [List.forIn_cons,List.forIn_nil,List.zipIdx_cons,List.zipIdx_nil]
  refine wpAny_bind (wpAny_bind (wpAny_onRaise ?_));show wpAny _ _ (Builtin.SmallTypes.nextOf (.ref i1) >>= _) _ _ _
  refine wpAny_bind (nextT_item (g1.extBut s1.extBut D.i1z) (t1.extBut s1.extBut D.l1z) ex fun a2 u2 s2=>wpAny_pure ?_)
  have o2:IsPair a2 TO a b:=s2.extBut _ _ D.TOi1 (s1.extBut _ _ D.TOz go)
  refine wpAny_bind (wpAny_seqItems o2 rfl ?_);refine wpAny_bind (wpAny_updateSeq_pair o2 fun a3 o3 s3=>?_)
  replace o3:IsPair a3 TO x b:=o3
  refine wpAny_bind (wpAny_letGo (wpAny_pure ?_));refine wpAny_bind (wpAny_bind (wpAny_onRaise ?_))
  show wpAny _ _ (Builtin.SmallTypes.nextOf (.ref i2) >>= _) _ _ _
  have w2:=((g2.extBut s1.extBut D.i2z).extBut s2.extBut D.i12.symm).extBut s3.extBut D.TOi2.symm
  have v2:=((t2.extBut s1.extBut D.l2z).extBut s2.extBut D.l2i1).extBut s3.extBut D.l2TO
  refine wpAny_bind (wpAny_nextOf_list_item w2 v2 ey fun a4 u4 s4=>wpAny_pure ?_)
  have o4:IsPair a4 TO x b:=s4.extBut _ _ D.TOi2 o3
  refine wpAny_bind (wpAny_seqItems o4 rfl ?_);refine wpAny_bind (wpAny_updateSeq_pair o4 fun a5 o5 s5=>?_)
  replace o5:IsPair a5 TO x y:=o5
  refine wpAny_bind (wpAny_letGo (wpAny_pure (wpAny_pure ?_)));refine wpAny_bind (wpAny_seqItems o5 rfl ?_)
  refine wpAny_bind (wpAny_newTuple ?_)
  have sz:a5.objs.size=s.heap.objs.size:=by rw [s5.1,s4.1,s3.1,s2.1,s1.1]
  have z5:IsZip a5 z TI TO .ellipsis:=s5.extBut _ _ D.TOz.symm (s4.extBut _ _ D.i2z.symm (s3.extBut _ _ D.TOz.symm (s2.extBut _ _ D.i1z.symm z1)))
  have kp:∀ c o,c ≠ z→c ≠ TO→c ≠ i1→c ≠ i2→s.heap.get? c=some o→a5.get? c=some o:=fun c o n1 n2 n3 n4 e=>s5.extBut _ _ n2 (s4.extBut _ _ n4 (s3.extBut _ _ n2 (s2.extBut _ _ n3 (s1.extBut _ _ n1 e))))
  have p1:a5.IsTupleIter i1 l1 (m + 1):=((u2.extBut s3.extBut D.TOi1.symm).extBut s4.extBut D.i12).extBut s5.extBut D.TOi1.symm
  have p2:a5.IsListIter i2 l2 (n + 1):=u4.extBut s5.extBut D.TOi2.symm
  have zl:z < a5.objs.size:=Heap.lt_size z5
  show wpAny _ _ (Builtin.SmallTypes.ownedTupleHandOut (.ref z) (.ref a5.objs.size) >>= _) _ _ _;refine wpAny_bind ?_
  unfold Builtin.SmallTypes.ownedTupleHandOut
  have z6:IsZip (a5.push { cls:=.type "tuple",data:=.seq #[x,y] }) z TI TO .ellipsis:=Heap.get?_push_of_some _ z5
  refine wpAny_bind (wpAny_setField_rec z6 (by simp) fun a7 z7 s7=>?_)
  replace z7:IsZip a7 z TI TO (rawInt a5.objs.size):=z7
  refine wpAny_setField_rec z7 (by simp) fun a8 z8 s8=>?_
  replace z8:IsZip a8 z TI TO (rawInt a5.objs.size):=z8
  have up:∀ c o,c ≠ z→a5.get? c=some o→a8.get? c=some o:=fun c o n1 e=>s8.extBut _ _ n1 (s7.extBut _ _ n1 (Heap.get?_push_of_some _ e))
  have pt:IsPair a8 a5.objs.size x y:=s8.extBut _ _ (Nat.ne_of_gt zl) (s7.extBut _ _ (Nat.ne_of_gt zl) (Heap.get?_push_size _ rfl))
  rw [sz] at z8 pt
  refine wpAny_pure ⟨_,rfl,?_⟩
  show Q (.ref a5.objs.size) _
  rw [sz]
  have p1':a8.IsTupleIter i1 l1 (m + 1):=by obtain ⟨o,e,r⟩:=p1;exact ⟨o,up _ o D.i1z e,r⟩
  exact q a8 z8 (up _ _ D.TOz o5) p1' (p2.at fun o e=>up _ o D.i2z e) pt fun c o n1 n2 n3 n4 e=>up c o n1 (kp c o n1 n2 n3 n4 e)
theorem zt_end {z TI TO i1 i2 l1 l2:Addr}{m n:Nat}{xs ys:Array Value}{a b:Value}{Q:Fin→Shared→Prop} (hh:A.handled=none) (D:ZipApart z TI TO i1 i2 l1 l2)
    (gz:IsZip s.heap z TI TO .none) (gi:IsPair s.heap TI (.ref i1) (.ref i2)) (go:IsPair s.heap TO a b) (g1:s.heap.IsTupleIter i1 l1 m) (t1:s.heap.IsTuple l1 xs) (ex:xs[m]?=none)
    (q:∀ h' e,(∀ c o,c ≠ z→c ≠ TO→c ≠ i1→c ≠ i2→s.heap.get? c=some o→h'.get? c=some o)→(∃ o,h'.get? e=some o∧o.cls = .type "StopIteration")→E (.ref e) { s with heap:=h' }) :
    wpAny (model prog w) A (Builtin.«zip.__next__» ⟨[.ref z],[]⟩) Q E s:=by
  show wpAny _ _ (field (.ref z) 2 >>= _) _ _ _;refine wpAny_bind (wpAny_field gz rfl (x:=.bool false) rfl ?_)
  show wpAny _ _ (field (.ref z) 3 >>= _) _ _ _;refine wpAny_bind (wpAny_field gz rfl (x:=.ref TI) rfl ?_)
  refine wpAny_bind (wpAny_seqItems gi rfl ?_)
  show wpAny _ _ (Builtin.SmallTypes.ownedTupleIsFree (.ref z) >>= _) _ _ _;refine wpAny_bind ?_
  unfold Builtin.SmallTypes.ownedTupleIsFree;refine wpAny_bind (wpAny_field gz rfl (x:=.none) rfl (wpAny_pure ?_))
  simp only [if_true];refine wpAny_bind (wpAny_rule ?_)
  refine wpAny_bind (wpAny_field gz rfl (x:=.ref TO) rfl ?_)
  refine wpAny_bind (wpAny_setField_rec gz (by simp) fun a1 z1 s1=>?_)
  replace z1:IsZip a1 z TI TO .ellipsis:=z1
  refine wpAny_bind ?_
  simp only [List.forIn_cons,List.forIn_nil,List.zipIdx_cons,List.zipIdx_nil]
  refine wpAny_bind (wpAny_bind (wpAny_onRaise ?_));show wpAny _ _ (Builtin.SmallTypes.nextOf (.ref i1) >>= _) _ _ _
  refine wpAny_bind (nextT_end hh (g1.extBut s1.extBut D.i1z) (t1.extBut s1.extBut D.l1z) ex fun a2 e s2 he=>?_)
  obtain ⟨oe,e1,e2⟩:=he
  have z2:IsZip a2 z TI TO .ellipsis:=s2 _ _ D.i1z.symm z1
  have ne:e ≠ z:=fun zz=>by subst zz;rw [z2] at e1;cases e1;simp at e2
  exact wpAny_setField_rec z2 (by simp) fun a3 _ s3=>q a3 e (fun c o n1 _ n3 _ u=>s3.extBut _ _ n1 (s2 _ _ n3 (s1.extBut _ _ n1 u))) ⟨oe,s3.extBut _ _ ne e1,e2⟩
theorem zt_next {z TI TO i1 i2 l1 l2:Addr}{m n:Nat}{xs ys:Array Value}{x y a b:Value}{Q:Option Value→Shared→Prop} (D:ZipApart z TI TO i1 i2 l1 l2)
    (gz:IsZip s.heap z TI TO .none) (gi:IsPair s.heap TI (.ref i1) (.ref i2)) (go:IsPair s.heap TO a b) (g1:s.heap.IsTupleIter i1 l1 m) (g2:s.heap.IsListIter i2 l2 n) (t1:s.heap.IsTuple l1 xs) (t2:s.heap.IsList l2 ys) (ex:xs[m]?=some x) (ey:ys[n]?=some y)
    (q:∀ h',IsZip h' z TI TO (rawInt s.heap.objs.size)→IsPair h' TO x y→h'.IsTupleIter i1 l1 (m + 1)→h'.IsListIter i2 l2 (n + 1)→IsPair h' s.heap.objs.size x y→(∀ c o,c ≠ z→c ≠ TO→c ≠ i1→c ≠ i2→s.heap.get? c=some o→h'.get? c=some o)→Q (some (.ref s.heap.objs.size)) { s with heap:=h' }) :
    wpAny (model prog w) A (pyNext (.ref z)) Q E s:=by
  have ty:s.TypeIs (.ref z) "zip":=⟨_,gz,rfl⟩
  unfold pyNext;refine wpAny_bind (wpAny_attempt (wpAny_callSpecial?_slot (name:=Str.ofString "__next__") ty F.slot_zip_next (wpAny_call_entry F.slot_zip_next ty F.entry_zip_next ?_ (F.args_zip_next_1 _))))
  exact zt_item D gz gi go g1 g2 t1 t2 ex ey fun h' c1 c2 c3 c4 c5 c6=>wpAny_pure (q h' c1 c2 c3 c4 c5 c6)
theorem zt_stop {z TI TO i1 i2 l1 l2:Addr}{m n:Nat}{xs:Array Value}{a b:Value}{Q:Option Value→Shared→Prop} (hh:A.handled=none) (D:ZipApart z TI TO i1 i2 l1 l2)
    (gz:IsZip s.heap z TI TO .none) (gi:IsPair s.heap TI (.ref i1) (.ref i2)) (go:IsPair s.heap TO a b) (g1:s.heap.IsTupleIter i1 l1 m) (t1:s.heap.IsTuple l1 xs) (ex:xs[m]?=none)
    (q:∀ h',(∀ c o,c ≠ z→c ≠ TO→c ≠ i1→c ≠ i2→s.heap.get? c=some o→h'.get? c=some o)→Q none { s with heap:=h' }):wpAny (model prog w) A (pyNext (.ref z)) Q E s:=by
  have ty:s.TypeIs (.ref z) "zip":=⟨_,gz,rfl⟩
  unfold pyNext;refine wpAny_bind (wpAny_attempt (wpAny_callSpecial?_slot (name:=Str.ofString "__next__") ty F.slot_zip_next (wpAny_call_entry F.slot_zip_next ty F.entry_zip_next ?_ (F.args_zip_next_1 _))))
  refine zt_end (ys:=#[]) (n:=0) (i2:=i2) (l2:=l2) hh D gz gi go g1 t1 ex fun h' e kp he=>?_
  obtain ⟨o,e1,e2⟩:=he
  refine wpAny_bind (wpAny_isInstance (T := "StopIteration") (b:=true) ⟨o,e1,e2⟩ isSubtype_stop (wpAny_pure (q _ kp)))
end
noncomputable abbrev ztH1 (h:Heap) (a:Addr):Heap:=h.push { cls:=.type "tuple_iterator",data:=.fields #[.ref a,.int 0 0] }
noncomputable abbrev ztH2 (h:Heap) (a b:Addr):Heap:=(ztH1 h a).push { cls:=.type "list_iterator",data:=.fields #[.ref b,.int 0 0] }
noncomputable abbrev ztH3 (h:Heap) (a b:Addr):Heap:=(ztH2 h a b).push { cls:=.type "tuple",data:=.seq #[.ref h.objs.size,.ref (ztH1 h a).objs.size] }
noncomputable abbrev ztH4 (h:Heap) (a b:Addr):Heap:=(ztH3 h a b).push { cls:=.type "tuple",data:=.seq #[.none,.none] }
noncomputable abbrev ztH5 (h:Heap) (a b:Addr):Heap:=(ztH4 h a b).push { cls:=.type "zip",data:=.fields #[.none,.bool false,.bool false,.ref (ztH2 h a b).objs.size,.ref (ztH3 h a b).objs.size] }
theorem zt_new (a b:Addr) (xs ys:Array Value):Meets (Builtin.«zip.__new__» ⟨[.type "zip",.ref a,.ref b],[]⟩) (fun _ R s=>s.heap.IsTuple a xs∧s.heap.IsList b ys∧R (.ok (.ret (.ref (ztH4 s.heap a b).objs.size))) { s with heap:=ztH5 s.heap a b }):=
  .of_wp fun prog w A R s h=>by
    obtain ⟨hp,g,d,tk,os⟩:=s;obtain ⟨t1,t2,h⟩:=h
    have sb:=sub_zip
    have T1:Heap.IsTuple (Shared.heap ⟨hp,g,d,tk,os⟩) a xs:=t1
    have T2:Heap.IsList (Shared.heap ⟨hp.push { cls:=.type "tuple_iterator",data:=.fields #[.ref a,.int 0 0] },g,d,tk,os⟩) b ys:=Heap.IsList.push t2 _
    wp_walk using wpAny_pyIter_tuple T1,wpAny_pyIter_list T2
    exact ⟨_,rfl,h⟩
section
variable {prog:Program}{w:World}{A:Around}{E:Value→Shared→Prop}{s:Shared}
theorem call_zt {a b:Addr}{xs ys:Array Value}{Q:Value→Shared→Prop} (t1:s.heap.IsTuple a xs) (t2:s.heap.IsList b ys)
    (q:∀ h',IsZip h' (s.heap.objs.size + 4) (s.heap.objs.size + 2) (s.heap.objs.size + 3) .none→IsPair h' (s.heap.objs.size + 2) (.ref s.heap.objs.size) (.ref (s.heap.objs.size + 1)) →
      IsPair h' (s.heap.objs.size + 3) .none .none→h'.IsTupleIter s.heap.objs.size a 0→h'.IsListIter (s.heap.objs.size + 1) b 0→(∀ c o,s.heap.get? c=some o→h'.get? c=some o)→Q (.ref (s.heap.objs.size + 4)) { s with heap:=h' }) :
    wpAny (model prog w) A (call (.type "zip") [.ref a,.ref b]) Q E s:=by
  refine callType_new F.called_zip (by decide) (F.typeCall_zip_2 _ _) (F.newCall_zip_2 _ _) (fun obj=>F.args_object_init_3 obj _ _) F.entry_zip_new (zt_new a b xs ys) ⟨t1,t2,?_⟩
  have y1:(ztH1 s.heap a).objs.size=s.heap.objs.size + 1:=Heap.size_push ..
  have y2:(ztH2 s.heap a b).objs.size=s.heap.objs.size + 2:=by rw [Heap.size_push,y1]
  have y3:(ztH3 s.heap a b).objs.size=s.heap.objs.size + 3:=by rw [Heap.size_push,y2]
  have y4:(ztH4 s.heap a b).objs.size=s.heap.objs.size + 4:=by rw [Heap.size_push,y3]
  have r5:(ztH5 s.heap a b).get? (ztH4 s.heap a b).objs.size=some _:=Heap.get?_push_size _ rfl
  have r4:(ztH5 s.heap a b).get? (ztH3 s.heap a b).objs.size=some _:=Heap.get?_push_of_some _ (Heap.get?_push_size _ rfl)
  have r3:(ztH5 s.heap a b).get? (ztH2 s.heap a b).objs.size=some _:=Heap.get?_push_of_some _ (Heap.get?_push_of_some _ (Heap.get?_push_size _ rfl))
  have r2:(ztH5 s.heap a b).get? (ztH1 s.heap a).objs.size=some _:=Heap.get?_push_of_some _ (Heap.get?_push_of_some _ (Heap.get?_push_of_some _ (Heap.get?_push_size _ rfl)))
  have r1:(ztH5 s.heap a b).get? s.heap.objs.size=some _:=Heap.get?_push_of_some _ (Heap.get?_push_of_some _ (Heap.get?_push_of_some _ (Heap.get?_push_of_some _ (Heap.get?_push_size _ rfl))))
  show _∧_
  rw [y2,y3,y4] at r5
  rw [y1,y2] at r3
  rw [y3] at r4
  rw [y1] at r2
  rw [y4]
  exact ⟨⟨_,r5,rfl⟩,q _ r5 r3 r4 ⟨_,r1,rfl,rfl⟩ ⟨_,r2,rfl,rfl⟩ fun c o e=>Heap.get?_push_of_some _ (Heap.get?_push_of_some _ (Heap.get?_push_of_some _ (Heap.get?_push_of_some _ (Heap.get?_push_of_some _ e))))⟩
end
noncomputable def Itw (K:PySem.W.Frag) (a b:Addr):It:=
  ⟨fun i H=>∃ xs ys x y,SqT K H a xs∧SqL K H b ys∧xs[i]?=some x∧ys[i]?=some y,
   fun i H v H'=>∃ T x y,H T=none∧v = .ref T∧(∀ xs,SqT K H a xs→xs[i]?=some x)∧(∀ ys,SqL K H b ys→ys[i]?=some y)∧H'=upd H T (.tup [x,y]),
   fun i H=>∃ xs,SqT K H a xs∧i=xs.length⟩
noncomputable abbrev ztSt (z TI TO i1 i2 l1 l2:Addr) (i:Nat) (h:Heap):Prop:=IsZip h z TI TO .none∧IsPair h TI (.ref i1) (.ref i2)∧(∃ a b,IsPair h TO a b)∧h.IsTupleIter i1 l1 i∧h.IsListIter i2 l2 i
theorem turn_zt {P:Program}{w:World}{K:PySem.W.Frag}{elts:List Expr}{k:Nat}{pos:Pos}{z TI TO i1 i2 l1 l2:Addr} (D:ZipApart z TI TO i1 i2 l1 l2):Turn P w K (.Tuple elts k pos) (Itw K l1 l2) [z,TI,TO,i1,i2] z (ztSt z TI TO i1 i2 l1 l2) where
  mem:=by simp
  obj:=fun i h st b hb=>by
    obtain ⟨hz,hTI,⟨a,c,hTO⟩,⟨o1,e1,c1,d1⟩,⟨o2,e2,c2,d2⟩⟩:=st
    simp at hb
    rcases hb with rfl | rfl | rfl | rfl | rfl
    · exact ⟨_,hz,fun v q=>nomatch q⟩
    · exact ⟨_,hTI,fun v q=>nomatch q⟩
    · exact ⟨_,hTO,fun v q=>nomatch q⟩
    · exact ⟨_,e1,fun v q=>by rw [d1] at q;cases q⟩
    · exact ⟨_,e2,fun v q=>by rw [d2] at q;cases q⟩
  keep:=fun i h h' st kk=>by
    obtain ⟨hz,hTI,⟨a,c,hTO⟩,⟨o1,e1,r1⟩,h2⟩:=st
    exact ⟨kk z (by simp) _ hz,kk TI (by simp) _ hTI,⟨a,c,kk TO (by simp) _ hTO⟩,⟨o1,kk i1 (by simp) o1 e1,r1⟩,h2.at fun o e=>kk i2 (by simp) o e⟩
  item:=by
    intro X hP hw hK hc i pins s σ H E I hf st hg
    subst hP hw hK
    obtain ⟨xs,ys,x,y,hx,hy,ex,ey⟩:=hg
    obtain ⟨its1,rv1,p1,z1⟩:=I.tuple hx
    obtain ⟨its2,rv2,p2,z2⟩:=I.list hy
    obtain ⟨u1,eu1,ru1⟩:=rv1.get ex
    obtain ⟨u2,eu2,ru2⟩:=rv2.get ey
    obtain ⟨hz,hTI,⟨ta,tb,hTO⟩,h1,h2⟩:=st
    refine zt_next D hz hTI hTO h1 h2 (show s.heap.IsTuple l1 its1.toArray from p1) p2.isList (by simpa using eu1) (by simpa using eu2) fun h' c1 c2 c3 c4 c5 c6=>?_
    refine ⟨.ref s.heap.objs.size,rfl,?_⟩
    refine wpAny_letOwnedTupleGo_zip c1 fun h'' c7 c8=>?_
    have zlt:z < s.heap.objs.size:=Heap.lt_size hz
    have nT:H s.heap.objs.size=none:=I.hok.fresh (Nat.le_refl _)
    have eT2:IsPair h'' s.heap.objs.size u1 u2:=c8.extBut _ _ (Nat.ne_of_gt zlt) c5
    have kp:∀ b o,b ∉ [z,TO,i1,i2]→s.heap.get? b=some o→h''.get? b=some o:=fun b o hb e=>by
      simp at hb
      exact c8.extBut _ _ hb.1 (c6 b o hb.1 hb.2.1 hb.2.2.1 hb.2.2.2 e)
    have ok:ObjOk X.prog X.w (upd H s.heap.objs.size (.tup [x,y])) h'' s.heap.objs.size (.tup [x,y]):=⟨by show 2≤sizeLine;decide,[u1,u2],.cons ru1 (.cons ru2 .nil),_,eT2,rfl,0,rfl⟩
    have I2:Inv X pins σ (upd H s.heap.objs.size (.tup [x,y])) { s with heap:=h'',toks:=s.toks }:=I.turnedNew (ch:=[z,TO,i1,i2]) (fun b hb=>hf b (by simp at hb ⊢;rcases hb with rfl | rfl | rfl | rfl <;> simp)) kp (Nat.le_refl _) ok
    have i1':h''.IsTupleIter i1 l1 (i + 1):=c3.extBut c8.extBut D.i1z
    refine ⟨.ref s.heap.objs.size,upd H s.heap.objs.size (.tup [x,y]),I2,rfl,⟨s.heap.objs.size,x,y,nT,rfl,fun vs hv=>by rw [I.tuple_inj hv hx];exact ex,fun vs hv=>by rw [I.list_inj hv hy];exact ey,rfl⟩,
      ⟨c7,?_,⟨u1,u2,c8.extBut _ _ D.TOz c2⟩,i1',c4.extBut c8.extBut D.i2z⟩,fun b hb=>?_⟩
    · exact c8.extBut _ _ D.TIz (c6 TI _ D.TIz D.TITO D.TIi1 D.TIi2 hTI)
    · rw [upd_ne ?_]
      · exact (hf b hb).1
      · intro zz
        obtain ⟨o1,e1,_⟩:=h1
        obtain ⟨o2,e2,_⟩:=h2
        have hob:∃ o,s.heap.get? b=some o:=by
          simp at hb
          rcases hb with rfl | rfl | rfl | rfl | rfl
          · exact ⟨_,hz⟩
          · exact ⟨_,hTI⟩
          · exact ⟨_,hTO⟩
          · exact ⟨_,e1⟩
          · exact ⟨_,e2⟩
        obtain ⟨o,eo⟩:=hob
        exact absurd (zz ▸ Heap.lt_size eo) (Nat.lt_irrefl _)
  done:=by
    intro X hP hw hK hc i pins s σ H E I hf st hg
    subst hP hw hK
    obtain ⟨xs,hx,ei⟩:=hg
    obtain ⟨its1,rv1,p1,z1⟩:=I.tuple hx
    obtain ⟨hz,hTI,⟨ta,tb,hTO⟩,h1,h2⟩:=st
    have ln:=rv1.length
    refine zt_stop (n:=0) (I.ok.hd hc) D hz hTI hTO h1 (show s.heap.IsTuple l1 its1.toArray from p1) (by simp;omega) fun h' kp=>⟨rfl,?_⟩
    refine I.turnedL (t':=s.toks) (ch:=[z,TO,i1,i2]) (fun b hb=>hf b (by simp at hb ⊢;rcases hb with rfl | rfl | rfl | rfl <;> simp)) fun b o hb e=>?_
    simp at hb
    exact kp b o hb.1 hb.2.1 hb.2.2.1 hb.2.2.2 e
  self:=fun _ _ _ _ _ st h=>wpAny_pyIter_zip st.1 h
noncomputable def iZipT (K:PySem.W.Frag) (ta:TA):TI:=fun σ H R=>ta σ H fun vs H1=>∃ a b:Addr,vs = [.ref a,.ref b]∧(∃ xs,SqT K H1 a xs)∧(∃ ys,SqL K H1 b ys)∧R (Itw K a b) H1
theorem pi_zipT {X:Cx}{elts:List Expr}{k:Nat}{tpos:Pos}{a b:Expr}{ta:TA}{p pos:Pos} (hg:Gl X "zip") (hm:X.mg "zip"=none) (ha:PA X [a,b] ta) (hs:starEach [a,b] X.env = [(false,eval a X.env),(false,eval b X.env)]:=by rfl) (hs2:starEach [b] X.env = [(false,eval b X.env)]:=by rfl) :
    PI X (.Tuple elts k tpos) (.Call (.Name "zip" p) [a,b] [] pos) (iZipT X.K ta):=by
  intro pins s σ H R I h
  refine Call_ (ld_blt I hg hm (show bootBuiltins "zip"=some (.type "zip") by decide +kernel) (PyProof.Rows.callWith_type1 (thn (ha pos pins s σ H _ I h) fun us s1 zz=>?_) (by rw [hs,hs2]) (by rw [hs2];rfl)))
  obtain ⟨vs,H1,I1,r1,q1⟩:=zz
  obtain ⟨l1,l2,e,⟨xs,hx⟩,⟨ys,hy⟩,q⟩:=q1
  subst e
  cases r1 with
  | cons r rr =>
    cases rr with
    | cons r' rr =>
      cases rr
      cases (show _=Value.ref l1 from r)
      cases (show _=Value.ref l2 from r')
      obtain ⟨its1,rv1,p1,z1⟩:=I1.tuple hx
      obtain ⟨its2,rv2,p2,z2⟩:=I1.list hy
      have hlt1:l1 < s1.heap.objs.size:=by
        obtain ⟨o1,e1,_⟩:=id (show s1.heap.IsTuple l1 its1.toArray from p1)
        exact Heap.lt_size e1
      have hlt2:l2 < s1.heap.objs.size:=by
        obtain ⟨o2,n2,e2,_⟩:=p2
        exact Heap.lt_size e2
      refine call_zt (show s1.heap.IsTuple l1 its1.toArray from p1) p2.isList fun h' c1 c2 c3 c4 c5 hk=>?_
      refine wpAny_pyIter_zip c1 ?_
      refine ⟨s1.heap.objs.size + 4,[s1.heap.objs.size + 4,s1.heap.objs.size + 2,s1.heap.objs.size + 3,s1.heap.objs.size,s1.heap.objs.size + 1],_,_,H1,rfl,I1.kept (t':=s1.toks) hk,turn_zt (PySem.W.ktu_apart _ _ _ hlt1 hlt2),⟨c1,c2,⟨_,_,c3⟩,c4,c5⟩,fun b hb=>?_,q⟩
      have hb':s1.heap.objs.size≤b:=by
        simp at hb
        rcases hb with rfl | rfl | rfl | rfl | rfl <;> first | exact Nat.le_refl _ | exact Nat.le_add_right _ _
      exact I1.fpOk hb' (I1.hok.fresh hb')
theorem comp_zt {K:PySem.W.Frag}{a b:Addr}{xs ws:List V}{c:TC}{tif:TT}{te:TE}{σ:St}{Q:VK}{acc:Addr}{H0:Hp} (Pv:Nat→List V→Hp→Prop) (h0:Pv 0 [] H0) (hl:∀ i ys H,i≤xs.length→Pv i ys H→SqT K H a xs∧SqL K H b ws) (hxw:xs.length=ws.length)
    (hs:∀ i x y T ys H,i < xs.length→xs[i]?=some x→ws[i]?=some y→Pv i ys H→H T=none→c (.ref T) (upd H T (.tup [x,y])) fun vs=>tif (σ ++ vs.map some) (upd H T (.tup [x,y])) fun b H3=>if b=true then te (σ ++ vs.map some) H3 fun v H4=>H4 acc=some (.lst ys)∧ys.length < sizeLine∧∃ m',m' < xs.length - i∧m'=xs.length - (i + 1)∧i + 1≤xs.length∧Pv (i + 1) (ys ++ [v]) (upd H4 acc (.lst (ys ++ [v])))
      else ∃ m',m' < xs.length - i∧m'=xs.length - (i + 1)∧i + 1≤xs.length∧Pv (i + 1) ys H3) (hd:∀ ys H,Pv xs.length ys H→Q (.ref acc) H) :
    CompR (Itw K a b) c tif te σ Q acc H0:=by
  refine ⟨fun i m ys H=>m=xs.length - i∧i≤xs.length∧Pv i ys H,⟨xs.length,by simp,Nat.zero_le _,h0⟩,?_⟩
  rintro i m ys H ⟨rfl,hi,p⟩
  obtain ⟨q1,q2⟩:=hl i ys H hi p
  by_cases hlt:i < xs.length
  · have hlt2:i < ws.length:=by omega
    refine .inr ⟨⟨xs,ws,xs[i],ws[i],q1,q2,by simp [hlt],by simp [hlt2]⟩,fun v H' y=>?_⟩
    obtain ⟨T,x,y,nT,rfl,hx,hy,rfl⟩:=y
    exact hs i x y T ys H hlt (hx xs q1) (hy ws q2) p nT
  · have e:i=xs.length:=by omega
    subst e
    exact .inl ⟨⟨xs,q1,rfl⟩,hd ys H p⟩
theorem pe_globS {X:Cx}{x:Str}{z:Str}{pos:Pos} (hg:Gl X x) (hm:∃ t,X.mg x=some (.str z t)) (hd:(x == ("__debug__" : Str))=false:=by decide):PE X (.Name x pos) (tC (.str z)):=by
  obtain ⟨t,hm⟩:=hm
  exact pe_glob hg hm ⟨t,rfl⟩ hd
end L2

set_option maxRecDepth 100000
set_option maxHeartbeats 4000000
namespace DayM
noncomputable abbrev Part:=Int × Int × Int
noncomputable def dw (q:Part) (t:Int):Int:=q.2.1 * (t - q.1) / q.2.2
noncomputable def nil3:Part:=(0,0,1)
structure IsPl (ps:List Part) (t:Int) (k:Nat):Prop where
  lt:k < ps.length
  le:(ps.getD k nil3).1≤t
  nx:k + 1 < ps.length→t < (ps.getD (k + 1) nil3).1
structure Ok (ticks:Int) (ps:List Part):Prop where
  t1:1≤ticks
  t2:ticks≤1000000
  ne:0 < ps.length
  z:(ps.getD 0 nil3).1=0
  up:∀ i,i + 1 < ps.length→(ps.getD i nil3).1 < (ps.getD (i + 1) nil3).1
  b:∀ i,i < ps.length→(ps.getD i nil3).1 < ticks∧0≤(ps.getD i nil3).2.1∧(ps.getD i nil3).2.1≤1000000∧1≤(ps.getD i nil3).2.2∧(ps.getD i nil3).2.2≤1000000
variable {ticks:Int}{ps:List Part}
theorem Ok.lt (o:Ok ticks ps):∀ {i j:Nat},i < j→j < ps.length→(ps.getD i nil3).1 < (ps.getD j nil3).1
  | i,0,h,_=>absurd h (Nat.not_lt_zero _)
  | i,j + 1,h,hj=>by
    have s:=o.up j hj
    rcases Nat.lt_or_ge i j with z | z
    · have r:=Ok.lt o z (Nat.lt_of_succ_lt hj)
      omega
    · have e:i=j:=by omega
      rw [e]
      exact s
theorem Ok.nn (o:Ok ticks ps) {i:Nat} (hi:i < ps.length):0≤(ps.getD i nil3).1:=by
  cases i with
  | zero=>rw [o.z];exact Int.le_refl 0
  | succ i =>
    have:=o.lt (i:=0) (j:=i + 1) (Nat.succ_pos i) hi
    rw [o.z] at this
    omega
theorem IsPl.uniq (o:Ok ticks ps) {t:Int}{k j:Nat} (a:IsPl ps t k) (b:IsPl ps t j):k=j:=by
  rcases Nat.lt_trichotomy k j with h | h | h
  · have x:=a.nx (Nat.lt_of_le_of_lt h b.lt)
    rcases Nat.lt_or_ge (k + 1) j with z | z
    · have y:=o.lt z b.lt
      have:=b.le
      omega
    · have e:j=k + 1:=by omega
      have:=b.le
      rw [e] at this
      omega
  · exact h
  · have x:=b.nx (Nat.lt_of_le_of_lt h a.lt)
    rcases Nat.lt_or_ge (j + 1) k with z | z
    · have y:=o.lt z a.lt
      have:=a.le
      omega
    · have e:k=j + 1:=by omega
      have:=a.le
      rw [e] at this
      omega
noncomputable def pl (ps:List Part) (t:Int):Nat→Nat
  | 0=>0
  | k + 1=>if (ps.getD (k + 1) nil3).1≤t then k + 1 else pl ps t k
theorem pl_is (o:Ok ticks ps) {t:Int} (h0:0≤t):∀ k,k < ps.length→(k + 1 < ps.length→t < (ps.getD (k + 1) nil3).1)→IsPl ps t (pl ps t k)
  | 0,hk,hn=>⟨hk,by show (ps.getD 0 nil3).1≤t;rw [o.z];exact h0,hn⟩
  | k + 1,hk,hn=>by
    unfold pl
    split
    · rename_i h
      exact ⟨hk,h,hn⟩
    · rename_i h
      exact pl_is o h0 k (Nat.lt_of_succ_lt hk) fun _=>Int.not_le.mp h
noncomputable abbrev plc (ps:List Part) (t:Int):Nat:=pl ps t (ps.length - 1)
theorem plc_is (o:Ok ticks ps) {t:Int} (h0:0≤t):IsPl ps t (plc ps t):=pl_is o h0 _ (by have:=o.ne;omega) fun h=>absurd h (by omega)
noncomputable def endOf (ticks:Int) (ps:List Part) (i:Nat):Int:=if i + 1 < ps.length then (ps.getD (i + 1) nil3).1 else ticks
noncomputable def sumAt (ticks:Int) (ps:List Part):Nat→Int
  | 0=>0
  | i + 1=>sumAt ticks ps i + dw (ps.getD i nil3) (endOf ticks ps i)
noncomputable def due (ticks:Int) (ps:List Part) (t:Int):Int:=dw (ps.getD (plc ps (t % ticks)) nil3) (t % ticks + 1) - dw (ps.getD (plc ps (t % ticks)) nil3) (t % ticks)
noncomputable def total (ticks:Int) (ps:List Part):Nat→Int
  | 0=>0
  | n + 1=>total ticks ps n + due ticks ps n
end DayM

set_option maxRecDepth 100000
set_option maxHeartbeats 4000000
namespace Sd
structure S where
  now:Int
  run:Bool
  con:Int
  wai:Int
  ask:Int
  mis:Int
  tot:Int
  fre:Int
  sent:List Int
structure C where
  due:Int→Int
  rules:List (Int × Int)
  lock:Int
  dose:Int
  hold:Int

noncomputable def minL:List Int→Int
  | []=>0
  | [x]=>x
  | x :: y :: r=>min x (minL (y :: r))
noncomputable def maxL:List Int→Int
  | []=>0
  | [x]=>x
  | x :: y :: r=>max x (maxL (y :: r))
theorem minL_mem:∀ {xs:List Int},xs ≠ []→minL xs ∈ xs
  | [],h=>absurd rfl h
  | [x],_=>by simp [minL]
  | x :: y :: r,_=>by
    have ih:=minL_mem (xs:=y :: r) (by simp)
    show min x (minL (y :: r)) ∈ _
    rcases Int.le_total x (minL (y :: r)) with h | h
    · rw [show min x (minL (y :: r))=x by omega];simp
    · rw [show min x (minL (y :: r))=minL (y :: r) by omega];exact List.mem_cons_of_mem _ ih
theorem minL_le:∀ {xs:List Int}{a:Int},a ∈ xs→minL xs≤a
  | [],a,h=>by simp at h
  | [x],a,h=>by simp at h;rw [h];exact Int.le_refl _
  | x :: y :: r,a,h=>by
    show min x (minL (y :: r))≤a
    rcases List.mem_cons.mp h with h | h
    · rw [h];omega
    · have:=minL_le (xs:=y :: r) h;omega
theorem minL_uniq {xs:List Int}{m:Int} (h:m ∈ xs) (hl:∀ a ∈ xs,m≤a):m=minL xs:=by
  have h1:=minL_le h
  have h2:=hl _ (minL_mem (fun z=>by rw [z] at h;simp at h))
  omega
theorem maxL_mem:∀ {xs:List Int},xs ≠ []→maxL xs ∈ xs
  | [],h=>absurd rfl h
  | [x],_=>by simp [maxL]
  | x :: y :: r,_=>by
    have ih:=maxL_mem (xs:=y :: r) (by simp)
    show max x (maxL (y :: r)) ∈ _
    rcases Int.le_total x (maxL (y :: r)) with h | h
    · rw [show max x (maxL (y :: r))=maxL (y :: r) by omega];exact List.mem_cons_of_mem _ ih
    · rw [show max x (maxL (y :: r))=x by omega];simp
theorem le_maxL:∀ {xs:List Int}{a:Int},a ∈ xs→a≤maxL xs
  | [],a,h=>by simp at h
  | [x],a,h=>by simp at h;rw [h];exact Int.le_refl _
  | x :: y :: r,a,h=>by
    show a≤max x (maxL (y :: r))
    rcases List.mem_cons.mp h with h | h
    · rw [h];omega
    · have:=le_maxL (xs:=y :: r) h;omega
theorem maxL_uniq {xs:List Int}{m:Int} (h:m ∈ xs) (hl:∀ a ∈ xs,a≤m):m=maxL xs:=by
  have h1:=le_maxL h
  have h2:=hl _ (maxL_mem (fun z=>by rw [z] at h;simp at h))
  omega

noncomputable def sumL (xs:List Int) (m:Int):Int:=(xs.drop (max 0 ((xs.length:Int) - m)).toNat).sum
noncomputable def lefts (rules:List (Int × Int)) (sent:List Int):List Int:=rules.map fun r=>r.2 - sumL sent (r.1 - 1)
noncomputable def room (rules:List (Int × Int)) (sent:List Int):Int:=max 0 (minL (lefts rules sent))
noncomputable def longest (rules:List (Int × Int)):Int:=maxL (rules.map (·.1))
noncomputable def wai1 (c:C) (s:S):Int:=if s.run=true then s.wai + c.due s.now else s.wai
noncomputable def many (c:C) (s:S):Int:=min (min (room c.rules s.sent) s.con) (wai1 c s + s.ask)
noncomputable def push (L:Int) (sent:List Int) (m:Int):List Int:=if ((sent ++ [m]).length:Int) > L then (sent ++ [m]).tail else sent ++ [m]
noncomputable def tick (c:C) (s:S):S:=
  { now:=s.now + 1,run:=s.run,con:=s.con - many c s,
    wai:=wai1 c s - min (many c s) (wai1 c s) - max 0 (wai1 c s - min (many c s) (wai1 c s) - c.hold),
    ask:=s.ask - (many c s - min (many c s) (wai1 c s)),
    mis:=s.mis + max 0 (wai1 c s - min (many c s) (wai1 c s) - c.hold),
    tot:=s.tot + many c s,fre:=max 0 (s.fre - 1),sent:=push (longest c.rules) s.sent (many c s) }
noncomputable def wtick (c:C) (s:S):S:=
  { now:=s.now + 1,run:=s.run,con:=s.con - many c s,
    wai:=min (max 0 (wai1 c s - many c s)) c.hold,
    ask:=wai1 c s + s.ask - many c s - max 0 (wai1 c s - many c s),
    mis:=s.mis + max 0 (wai1 c s - many c s) - min (max 0 (wai1 c s - many c s)) c.hold,
    tot:=s.tot + many c s,fre:=s.fre,sent:=s.sent ++ [many c s] }
noncomputable def lastN (L:Int) (xs:List Int):List Int:=xs.drop ((xs.length:Int) - L).toNat
theorem sumL_lastN {L m:Int}{xs:List Int} (h0:0≤m) (h:m≤L):sumL (lastN L xs) m=sumL xs m:=by
  unfold sumL lastN
  rw [List.drop_drop]
  congr 2
  rw [List.length_drop]
  omega
theorem push_lastN {L m:Int}{xs:List Int} (h:0≤L):push L (lastN L xs) m=lastN L (xs ++ [m]):=by
  unfold push lastN
  rw [List.length_append,List.length_append,List.length_drop]
  simp only [List.length_singleton]
  by_cases hx:(xs.length:Int) < L
  · rw [if_neg (by omega),show ((xs.length:Int) - L).toNat=0 by omega,show (((xs.length + 1:Nat):Int) - L).toNat=0 by omega]
    rfl
  · rw [if_pos (by omega)]
    have e:(((xs.length + 1:Nat):Int) - L).toNat=((xs.length:Int) - L).toNat + 1:=by omega
    rw [e,← List.drop_one]
    rw [show List.drop ((xs.length:Int) - L).toNat xs ++ [m]=List.drop ((xs.length:Int) - L).toNat (xs ++ [m]) by rw [List.drop_append_of_le_length (by omega)]]
    rw [List.drop_drop]
theorem room_lastN {rules:List (Int × Int)}{xs:List Int} (h:∀ r ∈ rules,1≤r.1):room rules (lastN (longest rules) xs)=room rules xs:=by
  unfold room lefts
  congr 2
  refine List.map_congr_left fun r hr=>?_
  have:=h r hr
  have:=le_maxL (List.mem_map_of_mem (f:=(·.1)) hr)
  rw [sumL_lastN (by omega) (by unfold longest;omega)]
structure Rel (c:C) (s w:S):Prop where
  now:s.now=w.now
  run:s.run=w.run
  con:s.con=w.con
  wai:s.wai=w.wai
  ask:s.ask=w.ask
  mis:s.mis=w.mis
  tot:s.tot=w.tot
  fre:s.fre=max 0 (w.fre - w.now)
  sent:s.sent=lastN (longest c.rules) w.sent
theorem Rel.room {c:C}{s w:S} (r:Rel c s w) (h:∀ r ∈ c.rules,1≤r.1):room c.rules s.sent=room c.rules w.sent:=by rw [r.sent,room_lastN h]
theorem Rel.wai1 {c:C}{s w:S} (r:Rel c s w):wai1 c s=wai1 c w:=by unfold Sd.wai1;rw [r.run,r.wai,r.now]
theorem Rel.many {c:C}{s w:S} (r:Rel c s w) (h:∀ r ∈ c.rules,1≤r.1):many c s=many c w:=by unfold Sd.many;rw [r.room h,r.con,r.ask,r.wai1]
theorem longest_nn {rules:List (Int × Int)} (h:∀ r ∈ rules,1≤r.1):0≤longest rules:=by
  unfold longest
  by_cases hn:rules.map (·.1) = []
  · rw [hn];exact Int.le_refl _
  · obtain ⟨r,hr,e⟩:=List.mem_map.mp (maxL_mem hn)
    have:=h r hr
    rw [← e];omega
theorem Rel.tick {c:C}{s w:S} (r:Rel c s w) (h:∀ r ∈ c.rules,1≤r.1):Rel c (tick c s) (wtick c w):=by
  have e1:=r.many h
  have e2:=r.wai1
  have hf:=r.fre
  have h1:=r.now
  have h2:=r.con
  have h3:=r.ask
  have h4:=r.mis
  have h5:=r.tot
  constructor
  · show s.now + 1=w.now + 1;omega
  · exact r.run
  · show s.con - Sd.many c s=w.con - Sd.many c w;omega
  · show Sd.wai1 c s - min (Sd.many c s) (Sd.wai1 c s) - max 0 (Sd.wai1 c s - min (Sd.many c s) (Sd.wai1 c s) - c.hold)=min (max 0 (Sd.wai1 c w - Sd.many c w)) c.hold
    rw [e1,e2];omega
  · show s.ask - (Sd.many c s - min (Sd.many c s) (Sd.wai1 c s))=Sd.wai1 c w + w.ask - Sd.many c w - max 0 (Sd.wai1 c w - Sd.many c w)
    rw [e1,e2];omega
  · show s.mis + max 0 (Sd.wai1 c s - min (Sd.many c s) (Sd.wai1 c s) - c.hold)=w.mis + max 0 (Sd.wai1 c w - Sd.many c w) - min (max 0 (Sd.wai1 c w - Sd.many c w)) c.hold
    rw [e1,e2];omega
  · show s.tot + Sd.many c s=w.tot + Sd.many c w;omega
  · show max 0 (s.fre - 1)=max 0 (w.fre - (w.now + 1));omega
  · show push (longest c.rules) s.sent (Sd.many c s)=lastN (longest c.rules) (w.sent ++ [Sd.many c w])
    rw [r.sent,push_lastN (longest_nn h),e1]

/-! ### deeds -/
inductive An where
  | non | num (n:Int) | set | lck | thr
  deriving DecidableEq
inductive Wd where
  | tick | press | fill | report | stop | start
  deriving DecidableEq
noncomputable def fillS (s:S) (m:Int):An × S:=if 0≤m∧m≤1000000 then (.non,{ s with con:=s.con + m }) else (.set,s)
noncomputable def pressS (c:C) (s:S) (m:Int):An × S:=if s.run=true∧1≤m∧m≤c.dose∧s.fre≤0 then (.non,{ s with ask:=s.ask + m,fre:=c.lock }) else (.lck,s)
noncomputable def wpressS (c:C) (s:S) (m:Int):An × S:=if s.run=true∧1≤m∧m≤c.dose∧s.fre≤s.now then (.non,{ s with ask:=s.ask + m,fre:=s.now + c.lock }) else (.lck,s)
noncomputable def stopS (s:S):S:={ s with run:=false,mis:=s.mis + (s.wai + s.ask),wai:=0,ask:=0 }
noncomputable def startS (s:S):S:={ s with run:=true }
noncomputable def plc (xs:List Int) (back:Int):Nat:=((xs.length:Int) - back).toNat
noncomputable def known (xs:List Int) (back:Int):Int:=xs.getD (plc xs back) 0
noncomputable def repS (s:S) (back m:Int):S:={ s with sent:=s.sent.set (plc s.sent back) m,con:=s.con + (known s.sent back - m),mis:=s.mis + (known s.sent back - m),tot:=s.tot - (known s.sent back - m) }
noncomputable def RepOk (L:Int) (xs:List Int) (back m:Int):Prop:=1≤back∧back≤L∧back≤xs.length∧0≤m∧m≤known xs back
noncomputable instance (L:Int) (xs:List Int) (back m:Int):Decidable (RepOk L xs back m):=by unfold RepOk;exact inferInstance
noncomputable def reportS (c:C) (s:S) (back m:Int):An × S:=if RepOk (longest c.rules) s.sent back m then (.non,repS s back m) else (.thr,s)
noncomputable def deed (c:C) (s:S):Wd→Int→Int→An × S
  | .tick,_,_=>(.num (many c s),tick c s)
  | .press,_,m=>pressS c s m
  | .fill,_,m=>fillS s m
  | .report,b,m=>reportS c s b m
  | .stop,_,_=>(.non,stopS s)
  | .start,_,_=>(.non,startS s)
noncomputable def wdeed (c:C) (s:S):Wd→Int→Int→An × S
  | .tick,_,_=>(.num (many c s),wtick c s)
  | .press,_,m=>wpressS c s m
  | .fill,_,m=>fillS s m
  | .report,b,m=>reportS c s b m
  | .stop,_,_=>(.non,stopS s)
  | .start,_,_=>(.non,startS s)

theorem lastN_length {L:Int}{xs:List Int} (h:0≤L):((lastN L xs).length:Int)=min L xs.length:=by
  unfold lastN
  rw [List.length_drop]
  omega
theorem known_lastN {L back:Int}{xs:List Int} (h0:0≤L) (h1:1≤back) (h2:back≤L) (h3:back≤xs.length):known (lastN L xs) back=known xs back:=by
  unfold known plc
  have hl:=lastN_length (xs:=xs) h0
  rw [hl]
  unfold lastN
  rw [List.getD_eq_getElem?_getD,List.getD_eq_getElem?_getD,List.getElem?_drop]
  congr 2
  omega
theorem set_lastN {L back m:Int}{xs:List Int} (h0:0≤L) (h1:1≤back) (h2:back≤L) (h3:back≤xs.length):(lastN L xs).set (plc (lastN L xs) back) m=lastN L (xs.set (plc xs back) m):=by
  unfold plc
  have hl:=lastN_length (xs:=xs) h0
  rw [hl]
  unfold lastN
  rw [List.length_set,List.drop_set,if_neg (by omega)]
  congr 1
  omega
theorem repOk_lastN {L back m:Int}{xs:List Int} (h0:0≤L):RepOk L (lastN L xs) back m ↔ RepOk L xs back m:=by
  unfold RepOk
  have hl:=lastN_length (xs:=xs) h0
  constructor
  · rintro ⟨a,b,c,d,e⟩
    rw [known_lastN h0 a b (by omega)] at e
    exact ⟨a,b,by omega,d,e⟩
  · rintro ⟨a,b,c,d,e⟩
    rw [← known_lastN h0 a b (by omega)] at e
    exact ⟨a,b,by omega,d,e⟩
theorem Rel.deed {c:C}{s w:S} (r:Rel c s w) (h:∀ r ∈ c.rules,1≤r.1) (hl:0≤c.lock) (d:Wd) (b m:Int):(deed c s d b m).1=(wdeed c w d b m).1∧Rel c (deed c s d b m).2 (wdeed c w d b m).2:=by
  have h1:=r.now
  have h2:=r.con
  have h3:=r.ask
  have h4:=r.mis
  have h5:=r.tot
  have h6:=r.wai
  have hf:=r.fre
  cases d with
  | tick=>exact ⟨congrArg An.num (r.many h),r.tick h⟩
  | press =>
    show (pressS c s m).1=(wpressS c w m).1∧Rel c (pressS c s m).2 (wpressS c w m).2
    unfold pressS wpressS
    by_cases hp:s.run=true∧1≤m∧m≤c.dose∧s.fre≤0
    · have hw:w.run=true∧1≤m∧m≤c.dose∧w.fre≤w.now:=⟨by rw [← r.run];exact hp.1,hp.2.1,hp.2.2.1,by have:=hp.2.2.2;omega⟩
      rw [if_pos hp,if_pos hw]
      exact ⟨rfl,r.now,r.run,r.con,r.wai,by show s.ask + m=w.ask + m;omega,r.mis,r.tot,by show c.lock=max 0 (w.now + c.lock - w.now);omega,r.sent⟩
    · have hw:¬ (w.run=true∧1≤m∧m≤c.dose∧w.fre≤w.now):=fun z=>hp ⟨by rw [r.run];exact z.1,z.2.1,z.2.2.1,by have:=z.2.2.2;omega⟩
      rw [if_neg hp,if_neg hw]
      exact ⟨rfl,r⟩
  | fill =>
    show (fillS s m).1=(fillS w m).1∧Rel c (fillS s m).2 (fillS w m).2
    unfold fillS
    by_cases hp:0≤m∧m≤1000000
    · rw [if_pos hp,if_pos hp]
      exact ⟨rfl,r.now,r.run,by show s.con + m=w.con + m;omega,r.wai,r.ask,r.mis,r.tot,r.fre,r.sent⟩
    · rw [if_neg hp,if_neg hp]
      exact ⟨rfl,r⟩
  | report =>
    show (reportS c s b m).1=(reportS c w b m).1∧Rel c (reportS c s b m).2 (reportS c w b m).2
    have L0:=longest_nn h
    unfold reportS
    have iff:=repOk_lastN (back:=b) (m:=m) (xs:=w.sent) L0
    rw [← r.sent] at iff
    by_cases hp:RepOk (longest c.rules) w.sent b m
    · rw [if_pos hp,if_pos (iff.mpr hp)]
      have ek:known s.sent b=known w.sent b:=by rw [r.sent];exact known_lastN L0 hp.1 hp.2.1 hp.2.2.1
      refine ⟨rfl,r.now,r.run,?_,r.wai,r.ask,?_,?_,r.fre,?_⟩
      · show s.con + (known s.sent b - m)=w.con + (known w.sent b - m);omega
      · show s.mis + (known s.sent b - m)=w.mis + (known w.sent b - m);omega
      · show s.tot - (known s.sent b - m)=w.tot - (known w.sent b - m);omega
      · show s.sent.set (plc s.sent b) m=lastN (longest c.rules) (w.sent.set (plc w.sent b) m)
        rw [r.sent];exact set_lastN L0 hp.1 hp.2.1 hp.2.2.1
    · rw [if_neg hp,if_neg (fun z=>hp (iff.mp z))]
      exact ⟨rfl,r⟩
  | stop =>
    refine ⟨rfl,r.now,rfl,r.con,rfl,rfl,?_,r.tot,r.fre,r.sent⟩
    show s.mis + (s.wai + s.ask)=w.mis + (w.wai + w.ask);omega
  | start=>exact ⟨rfl,r.now,rfl,r.con,r.wai,r.ask,r.mis,r.tot,r.fre,r.sent⟩

/-! ### what holds of a pump that is not loaded -/
structure Good (c:C):Prop where
  w1:∀ r ∈ c.rules,1≤r.1∧r.1≤1000
  m0:∀ r ∈ c.rules,0≤r.2∧r.2≤1000000
  ne:c.rules ≠ []
  lk:0≤c.lock∧c.lock≤1000000
  ds:0≤c.dose∧c.dose≤1000000
  hd:0≤c.hold∧c.hold≤1000000
  due:∀ t,0≤t→0≤c.due t
theorem Good.win {c:C} (g:Good c):∀ r ∈ c.rules,1≤r.1:=fun r hr=>(g.w1 r hr).1
theorem Good.L1 {c:C} (g:Good c):1≤longest c.rules∧longest c.rules≤1000:=by
  unfold longest
  obtain ⟨r,hr,e⟩:=List.mem_map.mp (maxL_mem (xs:=c.rules.map (·.1)) (by simpa using g.ne))
  have:=g.w1 r hr
  rw [← e];exact this
structure Ok (c:C) (s:S):Prop where
  now:0≤s.now
  con:0≤s.con
  wai:0≤s.wai
  ask:0≤s.ask
  mis:0≤s.mis
  tot:0≤s.tot
  fre:0≤s.fre∧s.fre≤1000000
  len:(s.sent.length:Int)≤longest c.rules
  all:∀ x ∈ s.sent,0≤x∧x≤1000000
  sum:s.sent.sum≤s.tot
theorem sum_nn:∀ {xs:List Int},(∀ x ∈ xs,0≤x)→0≤xs.sum
  | [],_=>by simp
  | x :: r,h=>by
    rw [List.sum_cons]
    have:=h x (by simp)
    have:=sum_nn (xs:=r) fun y hy=>h y (List.mem_cons_of_mem _ hy)
    omega
theorem room_le {c:C} (g:Good c) {xs:List Int} (h:∀ x ∈ xs,0≤x):0≤room c.rules xs∧room c.rules xs≤1000000:=by
  unfold room
  constructor
  · omega
  · obtain ⟨r,hr,e⟩:=List.mem_map.mp (minL_mem (xs:=lefts c.rules xs) (by unfold lefts;simpa using g.ne))
    have:=g.m0 r hr
    have h2:0≤sumL xs (r.1 - 1):=sum_nn fun x hx=>h x (List.mem_of_mem_drop hx)
    rw [← e];omega
theorem wai1_nn {c:C} (g:Good c) {s:S} (o:Ok c s):0≤wai1 c s:=by
  unfold wai1
  have:=g.due _ o.now
  have:=o.wai
  split <;> omega
theorem many_nn {c:C} (g:Good c) {s:S} (o:Ok c s):0≤many c s∧many c s≤1000000∧many c s≤s.con∧many c s≤wai1 c s + s.ask:=by
  have h1:=room_le g (xs:=s.sent) fun x hx=>(o.all x hx).1
  have h2:=wai1_nn g o
  have h3:=o.con
  have h4:=o.ask
  unfold many
  omega
theorem sum_set:∀ {xs:List Int}{i:Nat}{v:Int},i < xs.length→(xs.set i v).sum=xs.sum - xs.getD i 0 + v
  | [],i,v,h=>by simp at h
  | x :: r,0,v,_=>by
    show (v :: r).sum=(x :: r).sum - x + v
    rw [List.sum_cons,List.sum_cons];omega
  | x :: r,i + 1,v,h=>by
    have ih:=sum_set (xs:=r) (i:=i) (v:=v) (by simpa using h)
    show (x :: r.set i v).sum=(x :: r).sum - r.getD i 0 + v
    rw [List.sum_cons,List.sum_cons,ih];omega
theorem push_sum {L m:Int}{xs:List Int} (h:∀ x ∈ xs,0≤x) (hm:0≤m):(push L xs m).sum≤xs.sum + m:=by
  unfold push
  have e:(xs ++ [m]).sum=xs.sum + m:=by simp
  split
  · cases xs with
    | nil=>simp;exact hm
    | cons x r =>
      have:=h x (by simp)
      have e2:((x :: r) ++ [m]).tail=r ++ [m]:=rfl
      rw [e2,List.sum_cons,List.sum_append]
      simp;omega
  · omega
theorem push_mem {L m:Int}{xs:List Int}{x:Int} (h:x ∈ push L xs m):x ∈ xs ∨ x=m:=by
  unfold push at h
  have:x ∈ xs ++ [m]:=by
    split at h
    · exact List.mem_of_mem_tail h
    · exact h
  simpa using this
theorem push_len {L m:Int}{xs:List Int} (h:(xs.length:Int)≤L) (h0:0≤L):((push L xs m).length:Int)≤L:=by
  unfold push
  split
  · rw [List.length_tail,List.length_append];simp;omega
  · omega
theorem known_mem {xs:List Int}{b:Int} (h1:1≤b) (h2:b≤xs.length):known xs b ∈ xs:=by
  unfold known plc
  rw [List.getD_eq_getElem?_getD,List.getElem?_eq_getElem (by omega)]
  exact List.getElem_mem _
theorem Ok.deed {c:C} (g:Good c) {s:S} (o:Ok c s) (d:Wd) (b m:Int):Ok c (deed c s d b m).2:=by
  obtain ⟨o1,o2,o3,o4,o5,o6,o7,o8,o9,o10⟩:=id o
  cases d with
  | tick =>
    have hm:=many_nn g o
    have hw:=wai1_nn g o
    have hh:=g.hd
    have L0:=g.L1
    refine ⟨?_,?_,?_,?_,?_,?_,?_,?_,?_,?_⟩
    · show 0≤s.now + 1;omega
    · show 0≤s.con - many c s;omega
    · show 0≤wai1 c s - min (many c s) (wai1 c s) - max 0 (wai1 c s - min (many c s) (wai1 c s) - c.hold);omega
    · show 0≤s.ask - (many c s - min (many c s) (wai1 c s));omega
    · show 0≤s.mis + max 0 (wai1 c s - min (many c s) (wai1 c s) - c.hold);omega
    · show 0≤s.tot + many c s;omega
    · show 0≤max 0 (s.fre - 1)∧max 0 (s.fre - 1)≤1000000;omega
    · exact push_len o8 (by omega)
    · intro x hx
      rcases push_mem hx with h | h
      · exact o9 x h
      · rw [h];omega
    · have:=push_sum (L:=longest c.rules) (m:=many c s) (xs:=s.sent) (fun x hx=>(o9 x hx).1) hm.1
      show (push (longest c.rules) s.sent (many c s)).sum≤s.tot + many c s
      omega
  | press =>
    show Ok c (pressS c s m).2
    unfold pressS
    split
    · rename_i hp
      exact ⟨o1,o2,o3,by show 0≤s.ask + m;omega,o5,o6,g.lk,o8,o9,o10⟩
    · exact o
  | fill =>
    show Ok c (fillS s m).2
    unfold fillS
    split
    · exact ⟨o1,by show 0≤s.con + m;omega,o3,o4,o5,o6,o7,o8,o9,o10⟩
    · exact o
  | report =>
    show Ok c (reportS c s b m).2
    unfold reportS
    split
    · rename_i hp
      obtain ⟨p1,p2,p3,p4,p5⟩:=hp
      have hk:=o9 _ (known_mem p1 p3)
      have hs:(s.sent.set (plc s.sent b) m).sum=s.sent.sum - known s.sent b + m:=sum_set (by unfold plc;omega)
      have hn:0≤(s.sent.set (plc s.sent b) m).sum:=sum_nn fun x hx=>by
        rcases List.mem_or_eq_of_mem_set hx with h | h
        · exact (o9 x h).1
        · omega
      refine ⟨o1,?_,o3,o4,?_,?_,o7,?_,?_,?_⟩
      · show 0≤s.con + (known s.sent b - m);omega
      · show 0≤s.mis + (known s.sent b - m);omega
      · show 0≤s.tot - (known s.sent b - m);omega
      · show ((s.sent.set (plc s.sent b) m).length:Int)≤_
        rw [List.length_set];exact o8
      · intro x hx
        rcases List.mem_or_eq_of_mem_set hx with h | h
        · exact o9 x h
        · omega
      · show (s.sent.set (plc s.sent b) m).sum≤s.tot - (known s.sent b - m);omega
    · exact o
  | stop=>exact ⟨o1,o2,Int.le_refl 0,Int.le_refl 0,by show 0≤s.mis + (s.wai + s.ask);omega,o6,o7,o8,o9,o10⟩
  | start=>exact ⟨o1,o2,o3,o4,o5,o6,o7,o8,o9,o10⟩

/-! ### nothing is lost -/
structure Book (c:C) (s:S) (out:List Int) (filled wanted:Int):Prop where
  f:s.con + s.tot=filled
  w:s.wai + s.ask + s.mis + s.tot=wanted
  t:s.tot=out.sum
  o:∀ x ∈ out,0≤x∧x≤1000000
  se:s.sent=lastN (longest c.rules) out
  nw:s.now=out.length
noncomputable def outOf (c:C) (s:S) (out:List Int):Wd→Int→Int→List Int
  | .tick,_,_=>out ++ [many c s]
  | .report,b,m=>if (deed c s .report b m).1 = .non then out.set (plc out b) m else out
  | _,_,_=>out
theorem sum_set' {xs:List Int}{b m:Int} (h1:1≤b) (h2:b≤xs.length):(xs.set (plc xs b) m).sum=xs.sum - known xs b + m:=sum_set (by unfold plc;omega)
theorem Book.deed {c:C} (g:Good c) {s:S}{out:List Int}{fl wa:Int} (k:Ok c s) (b:Book c s out fl wa) (d:Wd) (ba m:Int) :
    Book c (deed c s d ba m).2 (outOf c s out d ba m) (fl + if d = .fill∧(deed c s d ba m).1 = .non then m else 0)
      (wa + (if d = .tick∧s.run=true then c.due s.now else 0) + if d = .press∧(deed c s d ba m).1 = .non then m else 0):=by
  obtain ⟨b1,b2,b3,b4,b5,b6⟩:=id b
  have L0:=longest_nn g.win
  cases d with
  | tick =>
    have hm:=many_nn g k
    have hs:(out ++ [many c s]).sum=out.sum + many c s:=by simp
    refine ⟨?_,?_,?_,?_,?_,?_⟩
    · rw [if_neg (by rintro ⟨h,_⟩;cases h)]
      show s.con - many c s + (s.tot + many c s)=fl + 0
      omega
    · rw [if_neg (c:=Wd.tick=Wd.press∧_) (by rintro ⟨h,_⟩;cases h)]
      show wai1 c s - min (many c s) (wai1 c s) - max 0 (wai1 c s - min (many c s) (wai1 c s) - c.hold) + (s.ask - (many c s - min (many c s) (wai1 c s))) + (s.mis + max 0 (wai1 c s - min (many c s) (wai1 c s) - c.hold)) + (s.tot + many c s)=wa + _ + 0
      by_cases hr:s.run=true
      · rw [if_pos ⟨rfl,hr⟩]
        have:wai1 c s=s.wai + c.due s.now:=by unfold wai1;rw [if_pos hr]
        omega
      · rw [if_neg (fun z=>hr z.2)]
        have:wai1 c s=s.wai:=by unfold wai1;rw [if_neg hr]
        omega
    · show s.tot + many c s=(out ++ [many c s]).sum
      omega
    · intro x hx
      rcases List.mem_append.mp hx with h | h
      · exact b4 x h
      · have:x=many c s:=by simpa using h
        omega
    · show push (longest c.rules) s.sent (many c s)=lastN (longest c.rules) (out ++ [many c s])
      rw [b5,push_lastN L0]
    · show s.now + 1=((out ++ [many c s]).length:Nat)
      rw [List.length_append];simp;omega
  | press =>
    rw [if_neg (c:=Wd.press=Wd.fill∧_) (by rintro ⟨h,_⟩;cases h),if_neg (c:=Wd.press=Wd.tick∧_) (by rintro ⟨h,_⟩;cases h)]
    show Book c (pressS c s m).2 out (fl + 0) (wa + 0 + if Wd.press=Wd.press∧(pressS c s m).1 = .non then m else 0)
    unfold pressS
    split
    · rw [if_pos ⟨rfl,rfl⟩]
      exact ⟨by show s.con + s.tot=fl + 0;omega,by show s.wai + (s.ask + m) + s.mis + s.tot=wa + 0 + m;omega,b3,b4,b5,b6⟩
    · rw [if_neg (by rintro ⟨_,h⟩;cases h)]
      exact ⟨by show s.con + s.tot=fl + 0;omega,by show s.wai + s.ask + s.mis + s.tot=wa + 0 + 0;omega,b3,b4,b5,b6⟩
  | fill =>
    rw [if_neg (c:=Wd.fill=Wd.press∧_) (by rintro ⟨h,_⟩;cases h),if_neg (c:=Wd.fill=Wd.tick∧_) (by rintro ⟨h,_⟩;cases h)]
    show Book c (fillS s m).2 out (fl + if Wd.fill=Wd.fill∧(fillS s m).1 = .non then m else 0) (wa + 0 + 0)
    unfold fillS
    split
    · rw [if_pos ⟨rfl,rfl⟩]
      exact ⟨by show s.con + m + s.tot=fl + m;omega,by show s.wai + s.ask + s.mis + s.tot=wa + 0 + 0;omega,b3,b4,b5,b6⟩
    · rw [if_neg (by rintro ⟨_,h⟩;cases h)]
      exact ⟨by show s.con + s.tot=fl + 0;omega,by show s.wai + s.ask + s.mis + s.tot=wa + 0 + 0;omega,b3,b4,b5,b6⟩
  | report =>
    rw [if_neg (c:=Wd.report=Wd.press∧_) (by rintro ⟨h,_⟩;cases h),if_neg (c:=Wd.report=Wd.tick∧_) (by rintro ⟨h,_⟩;cases h),if_neg (c:=Wd.report=Wd.fill∧_) (by rintro ⟨h,_⟩;cases h)]
    show Book c (reportS c s ba m).2 (if (reportS c s ba m).1 = .non then out.set (plc out ba) m else out) (fl + 0) (wa + 0 + 0)
    unfold reportS
    split
    · rename_i hp
      rw [if_pos rfl]
      have iff:=repOk_lastN (back:=ba) (m:=m) (xs:=out) L0
      rw [← b5] at iff
      obtain ⟨p1,p2,p3,p4,p5⟩:=iff.mp hp
      have ek:known s.sent ba=known out ba:=by rw [b5];exact known_lastN L0 p1 p2 p3
      have hs:=sum_set' (m:=m) p1 p3
      have hk:=b4 _ (known_mem p1 p3)
      refine ⟨?_,?_,?_,?_,?_,?_⟩
      · show s.con + (known s.sent ba - m) + (s.tot - (known s.sent ba - m))=fl + 0;omega
      · show s.wai + s.ask + (s.mis + (known s.sent ba - m)) + (s.tot - (known s.sent ba - m))=wa + 0 + 0;omega
      · show s.tot - (known s.sent ba - m)=_;omega
      · intro x hx
        rcases List.mem_or_eq_of_mem_set hx with h | h
        · exact b4 x h
        · omega
      · show s.sent.set (plc s.sent ba) m=_
        rw [b5];exact set_lastN L0 p1 p2 p3
      · show s.now=_
        rw [List.length_set];exact b6
    · rw [if_neg (by intro h;cases h)]
      exact ⟨by show s.con + s.tot=fl + 0;omega,by show s.wai + s.ask + s.mis + s.tot=wa + 0 + 0;omega,b3,b4,b5,b6⟩
  | stop =>
    rw [if_neg (c:=Wd.stop=Wd.press∧_) (by rintro ⟨h,_⟩;cases h),if_neg (c:=Wd.stop=Wd.tick∧_) (by rintro ⟨h,_⟩;cases h),if_neg (c:=Wd.stop=Wd.fill∧_) (by rintro ⟨h,_⟩;cases h)]
    exact ⟨by show s.con + s.tot=fl + 0;omega,by show 0 + 0 + (s.mis + (s.wai + s.ask)) + s.tot=wa + 0 + 0;omega,b3,b4,b5,b6⟩
  | start =>
    rw [if_neg (c:=Wd.start=Wd.press∧_) (by rintro ⟨h,_⟩;cases h),if_neg (c:=Wd.start=Wd.tick∧_) (by rintro ⟨h,_⟩;cases h),if_neg (c:=Wd.start=Wd.fill∧_) (by rintro ⟨h,_⟩;cases h)]
    exact ⟨by show s.con + s.tot=fl + 0;omega,by show s.wai + s.ask + s.mis + s.tot=wa + 0 + 0;omega,b3,b4,b5,b6⟩
/-! ### as soon as may be -/
/-! ### never more in a window -/
end Sd

set_option Elab.async false
set_option linter.all false
set_option maxRecDepth 100000
set_option maxHeartbeats 4000000
/-! Own: lines of a word and numbers, split and read again. -/
namespace Tx
open PySem
noncomputable def num (n:Int):Str:=Str.ofString (toString n)
noncomputable def glue (c:Nat):List (List Nat)→List Nat
  | []=>[]
  | [x]=>x
  | x :: y :: r=>x ++ c :: glue c (y :: r)
theorem cut_uniq {c:Nat}:∀ {x y u v:List Nat},c ∉ x→c ∉ y→x ++ c :: u=y ++ c :: v→x=y∧u=v
  | [],[],_,_,_,_,e=>⟨rfl,(List.cons.inj e).2⟩
  | [],b :: y,_,_,_,hy,e=>absurd (by rw [(List.cons.inj e).1];simp) hy
  | a :: x,[],_,_,hx,_,e=>absurd (by rw [← (List.cons.inj e).1];simp) hx
  | a :: x,b :: y,_,_,hx,hy,e=>by
    obtain ⟨e1,e2⟩:=List.cons.inj e
    obtain ⟨h1,h2⟩:=cut_uniq (fun h=>hx (List.mem_cons_of_mem _ h)) (fun h=>hy (List.mem_cons_of_mem _ h)) e2
    exact ⟨by rw [e1,h1],h2⟩
theorem glue_uniq {c:Nat}:∀ {ps qs:List (List Nat)},ps ≠ []→qs ≠ []→(∀ p ∈ ps,c ∉ p)→(∀ q ∈ qs,c ∉ q)→glue c ps=glue c qs→ps=qs
  | [],_,h,_,_,_,_=>absurd rfl h
  | _,[],_,h,_,_,_=>absurd rfl h
  | [x],[y],_,_,_,_,e=>by rw [show x=y from e]
  | [x],y :: z :: r,_,_,hp,_,e=>by
    have e:x=y ++ c :: glue c (z :: r):=e
    exact absurd (by rw [e];simp) (hp x (by simp))
  | x :: z :: r,[y],_,_,_,hq,e=>by
    have e:x ++ c :: glue c (z :: r)=y:=e
    exact absurd (by rw [← e];simp) (hq y (by simp))
  | x :: z :: r,y :: z' :: r',_,_,hp,hq,e=>by
    have e:x ++ c :: glue c (z :: r)=y ++ c :: glue c (z' :: r'):=e
    have hx:=hp x (by simp)
    have hy:=hq y (by simp)
    have exy:=cut_uniq hx hy e
    have ih:=glue_uniq (ps:=z :: r) (qs:=z' :: r') (by simp) (by simp) (fun p h=>hp p (List.mem_cons_of_mem _ h)) (fun q h=>hq q (List.mem_cons_of_mem _ h)) exy.2
    rw [exy.1,ih]
theorem join_glue (c:Nat):∀ (ts:List Str),(Str.join ⟨#[c]⟩ ts).cps.toList=glue c (ts.map fun t=>t.cps.toList)
  | []=>rfl
  | [x]=>rfl
  | x :: y :: r=>by
    show (x ++ ⟨#[c]⟩ ++ Str.join ⟨#[c]⟩ (y :: r)).cps.toList=_
    have ih:=join_glue c (y :: r)
    rw [Str.cps_append,Str.cps_append,Array.toList_append,Array.toList_append,ih]
    show x.cps.toList ++ [c] ++ _=x.cps.toList ++ c :: _
    rw [List.append_assoc]
    rfl
theorem cps_inj:∀ {ts us:List Str},ts.map (fun t=>t.cps.toList)=us.map (fun t=>t.cps.toList)→ts=us
  | [],[],_=>rfl
  | [],_ :: _,h=>by cases h
  | _ :: _,[],h=>by cases h
  | x :: ts,y :: us,h=>by
    obtain ⟨h1,h2⟩:=List.cons.inj h
    rw [Str.ext' (Array.toList_inj.mp h1),cps_inj h2]
theorem split_join {c:Nat}{ts:List Str} (hn:ts ≠ []) (hf:∀ t ∈ ts,c ∉ t.cps.toList):Txt.split (Str.join ⟨#[c]⟩ ts) ⟨#[c]⟩=ts:=by
  have h1:=StrLaws.join_split (Str.join ⟨#[c]⟩ ts) ⟨#[c]⟩
  have h2:=StrLaws.split_free (Str.join ⟨#[c]⟩ ts) c
  have hne:Txt.split (Str.join ⟨#[c]⟩ ts) ⟨#[c]⟩ ≠ []:=fun z=>by
    have:=PyProof.Rows.split_pos (Str.join ⟨#[c]⟩ ts) ⟨#[c]⟩
    rw [z] at this
    exact absurd this (by decide)
  have h6:=congrArg (fun t:Str=>t.cps.toList) h1
  rw [join_glue,join_glue] at h6
  refine cps_inj (glue_uniq ?_ ?_ ?_ ?_ h6)
  · simpa using hne
  · simpa using hn
  · intro p hp
    obtain ⟨t,ht,rfl⟩:=List.mem_map.mp hp
    exact h2 t ht
  · intro p hp
    obtain ⟨t,ht,rfl⟩:=List.mem_map.mp hp
    exact hf t ht
/-! ### numbers -/
theorem digits (m:Nat):∀ c ∈ (num (m:Int)).cps.toList,48≤c∧c≤57:=by
  intro c hc
  unfold num at hc
  rw [PySem.W.KIN.signs_num] at hc
  obtain ⟨ch,hch,e⟩:=List.mem_map.mp hc
  have r:=Nat.isDigit_of_mem_toDigits (by decide) (by decide) hch
  rw [← e]
  unfold Char.isDigit at r
  simp at r
  obtain ⟨r1,r2⟩:=r
  have r1:(48:Nat)≤ch.toNat:=r1
  have r2:ch.toNat≤57:=r2
  exact ⟨r1,r2⟩
theorem num_len {n:Int} (h0:0≤n) (h1:n < 10 ^ 10):1≤(num n).length∧(num n).length≤10:=by
  refine ⟨?_,PySem.W.KT.len_num h0 h1⟩
  obtain ⟨m,rfl⟩:=Int.eq_ofNat_of_zero_le h0
  have e:(num ((m:Nat):Int)).length=(num ((m:Nat):Int)).cps.toList.length:=by simp [Str.length]
  rw [e]
  unfold num
  rw [PySem.W.KIN.signs_num,List.length_map]
  exact Nat.length_toDigits_pos
theorem num_reads {n:Int} (h0:0≤n) (h1:n < 10 ^ 10):PySem.intText? (num n)=some n:=PySem.W.KIN.num_reads h0 h1
theorem num_head {m:Nat} (h:(num (m:Int)).cps.toList.head?=some 48):m=0:=by
  unfold num at h
  rw [PySem.W.KIN.signs_num] at h
  induction m using Nat.strongRecOn with
  | _ m ih =>
    by_cases h1:m < 10
    · rw [Nat.toDigits_of_lt_base h1] at h
      have h:(Nat.digitChar m).toNat=48:=Option.some.inj h
      have:∀ d:Nat,d < 10→(Nat.digitChar d).toNat=48→d=0:=by decide
      exact this m h1 h
    · rw [Nat.toDigits_of_base_le (by decide) (by omega),List.map_append] at h
      have h':((Nat.toDigits 10 (m / 10)).map Char.toNat).head?=some 48:=by
        cases e:Nat.toDigits 10 (m / 10) with
        | nil=>exact absurd e Nat.toDigits_ne_nil
        | cons a r=>rw [e] at h;exact h
      have:=ih (m / 10) (by omega) h'
      omega
theorem num_zero:num 0=⟨#[48]⟩:=by decide +kernel
theorem num_first {n:Int} (h0:0≤n) {c:Nat} (h:(num n).cps.toList[0]?=some c) (hc:c=48):n=0:=by
  obtain ⟨m,rfl⟩:=Int.eq_ofNat_of_zero_le h0
  subst hc
  have:=num_head (m:=m) (by rw [List.head?_eq_getElem?];exact h)
  rw [this]
  rfl
theorem num_digit {n:Int} (h0:0≤n) {i c:Nat} (h:(num n).cps[i]?=some c):48≤c∧c≤57:=by
  obtain ⟨m,rfl⟩:=Int.eq_ofNat_of_zero_le h0
  refine digits m c ?_
  have h2:(num ((m:Nat):Int)).cps.toList[i]?=some c:=by rw [← h];simp
  exact List.mem_of_getElem? h2
theorem joinOk {ts:List Str} (h:∀ t ∈ ts,t.length≤10) (hn:ts.length≤100000):JoinOk ⟨#[32]⟩ ts=true:=by
  unfold JoinOk
  rw [StrLaws.joinFits (B:=10) h (by show ts.length * 10 + ts.length * 1≤_;omega)]
  rfl
noncomputable def sp:Str:=⟨#[32]⟩
theorem sp_is:Str.ofString " "=sp:=by decide +kernel
noncomputable def line (w:Str) (ns:List Int):Str:=Txt.join sp (w :: ns.map num)
theorem split_line {w:Str}{ns:List Int} (hw:32 ∉ w.cps.toList) (hn:∀ n ∈ ns,0≤n):Txt.split (line w ns) sp=w :: ns.map num:=by
  unfold line Txt.join
  rw [StrLaws.glued_eq_join]
  refine split_join (by simp) fun t ht=>?_
  rcases List.mem_cons.mp ht with e | e
  · rw [e];exact hw
  · obtain ⟨n,hn',rfl⟩:=List.mem_map.mp e
    intro z
    obtain ⟨m,rfl⟩:=Int.eq_ofNat_of_zero_le (hn n hn')
    have:=digits m 32 z
    omega
theorem line_len {w:Str}{ns:List Int} (hw:w.length≤10) (hn:∀ n ∈ ns,0≤n∧n < 10 ^ 10):(line w ns).length≤11 * (ns.length + 1):=by
  unfold line Txt.join
  rw [StrLaws.glued_eq_join]
  have key:∀ ts:List Str,(∀ t ∈ ts,t.length≤10)→(Str.join sp ts).length≤11 * ts.length:=by
    intro ts
    induction ts with
    | nil=>intro _;exact Nat.zero_le _
    | cons x r ih =>
      intro h
      cases r with
      | nil=>have:=h x (by simp);show x.length≤11 * 1;omega
      | cons y r =>
        have h1:=h x (by simp)
        have h2:=ih fun t ht=>h t (List.mem_cons_of_mem _ ht)
        show (x ++ sp ++ Str.join sp (y :: r)).length≤_
        rw [Str.length_append,Str.length_append]
        have:sp.length=1:=rfl
        rw [List.length_cons]
        omega
  have:=key (w :: ns.map num) fun t ht=>by
    rcases List.mem_cons.mp ht with e | e
    · rw [e];exact hw
    · obtain ⟨n,hn',rfl⟩:=List.mem_map.mp e
      exact (num_len (hn n hn').1 (hn n hn').2).2
  rw [List.length_cons,List.length_map] at this
  exact this
theorem fig (c:Nat) (h:48≤c∧c≤57):(!(Builtin.Str.occurrences (Str.ofString "0123456789") ⟨#[c]⟩ 0 (Str.ofString "0123456789").length 1).isEmpty)=true:=by
  rw [StrLaws.found_one]
  refine decide_eq_true ?_
  have e:(Str.ofString "0123456789").cps.toList = [48,49,50,51,52,53,54,55,56,57]:=by decide +kernel
  rw [e]
  simp only [List.mem_cons,List.not_mem_nil,or_false]
  omega
end Tx

set_option Elab.async false
set_option linter.all false
set_option maxRecDepth 100000
set_option maxHeartbeats 4000000
-- MAC BEGIN
local macro_rules | `(tactic| walk_at "ne") => `(tactic| first | assumption | (apply Ne.symm; assumption))
local macro_rules | `(tactic| walk_at "hp") => `(tactic| first
  | assumption
  | exact L2.upd_same
  | (apply L2.at_ne; (walk_at "ne"); (walk_at "hp"))
  | (apply L2.at_new; assumption; (walk_at "hp"))
  | (apply L2.at_same; assumption; (walk_at "hp")))
local macro_rules | `(tactic| walk_at "sl") => `(tactic| first
  | assumption
  | (apply L2.sl_at; (walk_at "hp"))
  | (apply L2.sl_ne; (walk_at "ne"); (walk_at "sl"))
  | (apply L2.sl_new; assumption; (walk_at "sl"))
  | (apply L2.sl_same; assumption; (walk_at "sl")))
local macro_rules | `(tactic| walk_at "st") => `(tactic| first
  | assumption
  | (apply L2.st_at; (walk_at "hp"))
  | (apply L2.st_ne; (walk_at "ne"); (walk_at "st"))
  | (apply L2.st_new; assumption; (walk_at "st"))
  | (apply L2.st_mut; assumption; exact True.intro; (walk_at "st"))
  | (apply L2.st_same; assumption; (walk_at "st")))
local macro_rules | `(tactic| walk_at "sz") => `(tactic| first
  | exact Nat.le_trans (m := 900) (Nat.le_of_ble_eq_true rfl) (by decide)
  | (refine Nat.le_trans (m := 900) ?_ (by decide); simp only [List.length_map, List.length_append, List.length_cons, List.length_nil]; omega))
local macro_rules | `(tactic| walk_at "at") => `(tactic| first
  | exact rfl
  | assumption)
local macro_rules | `(tactic| walk_at "ix") => `(tactic| first
  | assumption
  | exact rfl)
local macro_rules | `(tactic| walk_at "vn") => `(tactic| first
  | exact L2.intNe (by omega)
  | exact L2.refNon
  | exact L2.intNon
  | exact L2.strNon
  | exact L2.blNon
  | exact L2.nonInt
  | exact L2.nonStr
  | exact L2.strInt
  | exact L2.intStr
  | decide)
local macro_rules | `(tactic| walk_at "if") => `(tactic| first
  | with_reducible refine L2.iteT ?_
  | with_reducible refine L2.iteF ?_
  | ((with_reducible refine L2.itY (c := _ < _) ?_ ?_); omega)
  | ((with_reducible refine L2.itN (c := _ < _) ?_ ?_); omega)
  | ((with_reducible refine L2.itY (c := _ ≤ _) ?_ ?_); omega)
  | ((with_reducible refine L2.itN (c := _ ≤ _) ?_ ?_); omega)
  | ((with_reducible refine L2.itY ?_ ?_); (first | exact rfl | assumption | exact L2.intEq (by omega)))
  | ((with_reducible refine L2.itN ?_ ?_); (first | assumption | walk_at "vn"))
  | ((with_reducible refine L2.ntN ?_ ?_); (first | exact rfl | assumption | exact L2.intEq (by omega)))
  | ((with_reducible refine L2.ntY ?_ ?_); (first | assumption | walk_at "vn"))
  | refine L2.iteT ?_
  | refine L2.iteF ?_)
local macro_rules | `(tactic| walk_at "and") => `(tactic| first
  | refine And.intro rfl ?_
  | ((with_reducible show L2.CMul _ _ ∧ _); refine And.intro (by first | exact Or.inl ⟨by omega, by omega⟩ | exact Or.inr ⟨by omega, by omega⟩) ?_)
  | ((with_reducible show L2.CDiv _ _ ∧ _); refine And.intro ⟨by omega, by omega⟩ ?_)
  | ((with_reducible show _ ≤ PySem.sizeLine ∧ _); refine And.intro (by walk_at "sz") ?_)
  | refine And.intro (by assumption) ?_
  | refine And.intro (by omega) ?_
  | refine And.intro (by show (0 : Int) < _; omega) ?_
  | refine And.intro ⟨by omega, by simp only [List.length_cons, List.length_nil]; omega⟩ ?_
  | refine And.intro (Or.inl ⟨rfl, _, (by walk_at "sl")⟩) ?_
  | refine And.intro ⟨_, (by walk_at "sl")⟩ ?_
  | refine And.intro ⟨_, (by walk_at "st")⟩ ?_
  | refine And.intro (by decide) ?_
  | refine And.intro (by walk_at "sz") ?_)
local macro_rules | `(tactic| walk_at "r1") => `(tactic| first
  | ((with_reducible show @ite _ _ _ _ _); walk_at "if")
  | refine L2.iVar rfl ?_
  | refine L2.iTest ?_
  | refine L2.iI0 ?_
  | refine L2.iI ?_
  | refine ⟨_, rfl, ?_⟩
  | refine ⟨_, _, rfl, rfl, ?_⟩
  | ((with_reducible show _ ∧ _); walk_at "and")
  | refine ⟨_, _, _, rfl, (by walk_at "hp"), ?_⟩
  | refine ⟨_, _, _, rfl, (by walk_at "sl"), ?_⟩
  | refine ⟨_, _, rfl, (by walk_at "hp"), ?_⟩
  | refine ⟨_, _, (by walk_at "hp"), ?_⟩
  | refine ⟨_, _, _, _, rfl, rfl, (by walk_at "st"), (by walk_at "at"), ?_⟩
  | refine ⟨_, _, _, _, rfl, rfl, (by walk_at "sl"), (by walk_at "at"), ?_⟩
  | refine ⟨_, _, rfl, rfl, (by walk_at "hp"), ?_⟩
  | refine ⟨_, _, _, rfl, rfl, (by walk_at "hp"), ?_⟩
  | refine ⟨_, _, _, _, rfl, rfl, (by walk_at "hp"), (by walk_at "ix"), ?_⟩
  | refine ⟨_, _, _, _, rfl, rfl, (by walk_at "sl"), (by walk_at "sl"), ?_⟩
  | refine ⟨_, _, rfl, (by walk_at "st"), ?_⟩
  | refine ⟨_, _, rfl, Or.inl (by walk_at "sl"), ?_⟩
  | refine ⟨_, _, rfl, Or.inr (by walk_at "st"), ?_⟩
  | walk_at "and"
  | refine ⟨_, _, rfl, ?_⟩
  | refine ⟨_, _, _, rfl, ?_⟩
  | refine fun (H2 : L2.Hp) (s2 : L2.Same _ H2) => ?_
  | refine fun (z : PySem.Str) => ?_
  | refine fun (hz : PySem.Str.length _ ≤ 100000) => ?_)
local macro_rules | `(tactic| walk_at "rd") => `(tactic| repeat walk_at "r1")
local macro_rules | `(tactic| walk_at "cb") => `(tactic| refine ⟨_, _, _, _, rfl, (by decide), (by omega), (by omega), (by omega), fun hcb => ?_, fun hcb => ?_⟩)
local macro_rules | `(tactic| walk_at "g") => `(tactic| first | rfl | (intro _; rfl) | (intro _ _; rfl) | decide)
local macro_rules | `(tactic| walk_at "o") => `(tactic| first | exact Or.inl rfl | exact Or.inr (Or.inl rfl) | exact Or.inr (Or.inr rfl))
local macro_rules | `(tactic| walk_at "f") => `(tactic| first | exact .inl rfl | exact .inr rfl | assumption)
set_option hygiene false in
local macro_rules | `(s! $x:interpolatedStr) => match x.raw[0].isInterpolatedStrLit? with
  | some "n" => `((@pa_nil _))
  | some "i" => `((@pe_int _ _ _ _))
  | some "s" => `((@pe_str _ _ _ _))
  | some "z" => `((@pss_nil _))
  | some "g" => `((by walk_at "g"))
  | some "f" => `((by walk_at "f"))
  | some "d" => `((by decide))
  | some "k" => `((by decide +kernel))
  | some "h" => `((Room.mono hr (by decide)))
  | some v => let n := Lean.Syntax.mkNumLit v; `(@pv _ $n _ _ rfl (by walk_at "o") (by decide) (by decide))
  | none => Lean.Macro.throwUnsupported
set_option hygiene false in
local macro_rules | `(%[ $xs,* | $k ]) => match k.raw.isNatLit? with
  | some 0 => `(@pa_cons _ _ _ _ _ $(xs.getElems)*)
  | some 1 => `(@pe_call _ _ _ _ _ _ _ _ _ _ _ _ _ _ _ _ $(xs.getElems)*)
  | some 2 => `(@pss_cons _ _ _ _ _ $(xs.getElems)*)
  | some 3 => `(@pe_op _ _ _ _ _ _ _ _ $(xs.getElems)*)
  | some 4 => `(@pss_one _ _ _ $(xs.getElems)*)
  | some 5 => `(@pe_fldR _ _ _ _ _ _ _ _ _ _ $(xs.getElems)*)
  | some 6 => `(@pe_callB _ _ _ _ _ _ _ _ _ $(xs.getElems)*)
  | some 7 => `(@pe_itm _ _ _ _ _ _ _ _ _ _ _ $(xs.getElems)*)
  | some 8 => `(@pe_ix _ _ _ _ _ _ _ $(xs.getElems)*)
  | some 9 => `(@pt_cmpR _ _ _ _ _ _ _ _ $(xs.getElems)*)
  | some 10 => `(@ps_if _ _ _ _ _ _ _ _ $(xs.getElems)*)
  | some 11 => `(@ps_ret _ _ _ _ $(xs.getElems)*)
  | some 12 => `(@ps_set _ _ $(xs.getElems)*)
  | some 13 => `(@ps_itm _ _ _ _ _ _ _ _ _ _ _ _ _ _ $(xs.getElems)*)
  | some 14 => `(@ps_augR _ _ _ _ _ _ _ _ _ _ _ _ _ _ _ $(xs.getElems)*)
  | some 15 => `(@ps_fldR _ _ _ _ _ _ _ _ _ _ _ _ _ $(xs.getElems)*)
  | some 16 => `(@pe_callTy _ _ _ _ _ _ _ _ _ $(xs.getElems)*)
  | some 17 => `(@pj_cons _ _ _ _ _ $(xs.getElems)*)
  | some 18 => `(@ps_expr _ _ _ _ $(xs.getElems)*)
  | some 19 => `(@ps_fldC _ _ _ _ _ _ _ _ _ $(xs.getElems)*)
  | some 20 => `(@pe_bm _ _ _ _ _ _ _ _ _ _ _ _ $(xs.getElems)*)
  | some 21 => `(@pw_or _ _ _ _ _ _ _ $(xs.getElems)*)
  | some 22 => `(@pe_comp _ _ _ _ _ _ $(xs.getElems)*)
  | some 23 => `(@pe_lst _ _ _ _ $(xs.getElems)*)
  | _ => Lean.Macro.throwUnsupported
-- MAC END

namespace Sp
open PySem L2
noncomputable def top (i:Nat):Stmt:=PySem.Challenge.pw_stilldose_k30_whole_saved.main.body.getD i (.Pass ⟨0,0,0,0⟩)
noncomputable def w_check_between:{ s:Stmt // s=top 8 }:=⟨_,by conv=>rhs;whnf⟩
noncomputable abbrev s_check_between:Stmt:=w_check_between.1
noncomputable def w_checked_rules:{ s:Stmt // s=top 13 }:=⟨_,by conv=>rhs;whnf⟩
noncomputable abbrev s_checked_rules:Stmt:=w_checked_rules.1
noncomputable def w_longest_window:{ s:Stmt // s=top 14 }:=⟨_,by conv=>rhs;whnf⟩
noncomputable abbrev s_longest_window:Stmt:=w_longest_window.1
noncomputable def w_sum_of_last:{ s:Stmt // s=top 15 }:=⟨_,by conv=>rhs;whnf⟩
noncomputable abbrev s_sum_of_last:Stmt:=w_sum_of_last.1
noncomputable def w_room_left:{ s:Stmt // s=top 16 }:=⟨_,by conv=>rhs;whnf⟩
noncomputable abbrev s_room_left:Stmt:=w_room_left.1
noncomputable def w_Pump_init:{ s:Stmt // s=inClass (top 19) 0 }:=⟨_,by conv=>rhs;whnf⟩
noncomputable abbrev s_Pump_init:Stmt:=w_Pump_init.1
noncomputable def w_Pump_time:{ s:Stmt // s=inClass (top 19) 1 }:=⟨_,by conv=>rhs;whnf⟩
noncomputable abbrev s_Pump_time:Stmt:=w_Pump_time.1
noncomputable def w_Pump_is_running:{ s:Stmt // s=inClass (top 19) 2 }:=⟨_,by conv=>rhs;whnf⟩
noncomputable abbrev s_Pump_is_running:Stmt:=w_Pump_is_running.1
noncomputable def w_Pump_state:{ s:Stmt // s=inClass (top 19) 3 }:=⟨_,by conv=>rhs;whnf⟩
noncomputable abbrev s_Pump_state:Stmt:=w_Pump_state.1
noncomputable def w_start:{ s:Stmt // s=top 20 }:=⟨_,by conv=>rhs;whnf⟩
noncomputable abbrev s_start:Stmt:=w_start.1
noncomputable def w_stop:{ s:Stmt // s=top 21 }:=⟨_,by conv=>rhs;whnf⟩
noncomputable abbrev s_stop:Stmt:=w_stop.1
noncomputable def w_fill:{ s:Stmt // s=top 22 }:=⟨_,by conv=>rhs;whnf⟩
noncomputable abbrev s_fill:Stmt:=w_fill.1
noncomputable def w_press:{ s:Stmt // s=top 23 }:=⟨_,by conv=>rhs;whnf⟩
noncomputable abbrev s_press:Stmt:=w_press.1
noncomputable def w_room:{ s:Stmt // s=top 24 }:=⟨_,by conv=>rhs;whnf⟩
noncomputable abbrev s_room:Stmt:=w_room.1
noncomputable def w_tick:{ s:Stmt // s=top 25 }:=⟨_,by conv=>rhs;whnf⟩
noncomputable abbrev s_tick:Stmt:=w_tick.1
noncomputable def w_send:{ s:Stmt // s=top 26 }:=⟨_,by conv=>rhs;whnf⟩
noncomputable abbrev s_send:Stmt:=w_send.1
noncomputable def w_miss_above_hold:{ s:Stmt // s=top 27 }:=⟨_,by conv=>rhs;whnf⟩
noncomputable abbrev s_miss_above_hold:Stmt:=w_miss_above_hold.1
noncomputable def w_report:{ s:Stmt // s=top 28 }:=⟨_,by conv=>rhs;whnf⟩
noncomputable abbrev s_report:Stmt:=w_report.1
noncomputable def w_counts:{ s:Stmt // s=top 29 }:=⟨_,by conv=>rhs;whnf⟩
noncomputable abbrev s_counts:Stmt:=w_counts.1
noncomputable def w_set_counts:{ s:Stmt // s=top 30 }:=⟨_,by conv=>rhs;whnf⟩
noncomputable abbrev s_set_counts:Stmt:=w_set_counts.1
noncomputable def w_twin:{ s:Stmt // s=top 31 }:=⟨_,by conv=>rhs;whnf⟩
noncomputable abbrev s_twin:Stmt:=w_twin.1
noncomputable def w_line_of:{ s:Stmt // s=top 36 }:=⟨_,by conv=>rhs;whnf⟩
noncomputable abbrev s_line_of:Stmt:=w_line_of.1
noncomputable def w_saved:{ s:Stmt // s=top 37 }:=⟨_,by conv=>rhs;whnf⟩
noncomputable abbrev s_saved:Stmt:=w_saved.1
noncomputable def w_is_number:{ s:Stmt // s=top 38 }:=⟨_,by conv=>rhs;whnf⟩
noncomputable abbrev s_is_number:Stmt:=w_is_number.1
noncomputable def w_numbers_of:{ s:Stmt // s=top 39 }:=⟨_,by conv=>rhs;whnf⟩
noncomputable abbrev s_numbers_of:Stmt:=w_numbers_of.1
noncomputable def w_fits:{ s:Stmt // s=top 40 }:=⟨_,by conv=>rhs;whnf⟩
noncomputable abbrev s_fits:Stmt:=w_fits.1
noncomputable def w_rows_of:{ s:Stmt // s=top 41 }:=⟨_,by conv=>rhs;whnf⟩
noncomputable abbrev s_rows_of:Stmt:=w_rows_of.1
noncomputable def w_loaded:{ s:Stmt // s=top 42 }:=⟨_,by conv=>rhs;whnf⟩
noncomputable abbrev s_loaded:Stmt:=w_loaded.1
noncomputable def w_drops_by:{ s:Stmt // s=top 46 }:=⟨_,by conv=>rhs;whnf⟩
noncomputable abbrev s_drops_by:Stmt:=w_drops_by.1
noncomputable def w_drops_at:{ s:Stmt // s=top 47 }:=⟨_,by conv=>rhs;whnf⟩
noncomputable abbrev s_drops_at:Stmt:=w_drops_at.1
noncomputable def w_check_part:{ s:Stmt // s=top 48 }:=⟨_,by conv=>rhs;whnf⟩
noncomputable abbrev s_check_part:Stmt:=w_check_part.1
noncomputable def w_check_day:{ s:Stmt // s=top 49 }:=⟨_,by conv=>rhs;whnf⟩
noncomputable abbrev s_check_day:Stmt:=w_check_day.1
noncomputable def w_drops_within:{ s:Stmt // s=top 50 }:=⟨_,by conv=>rhs;whnf⟩
noncomputable abbrev s_drops_within:Stmt:=w_drops_within.1
noncomputable def w_sums_ahead:{ s:Stmt // s=top 51 }:=⟨_,by conv=>rhs;whnf⟩
noncomputable abbrev s_sums_ahead:Stmt:=w_sums_ahead.1
noncomputable def w_place_of_part:{ s:Stmt // s=top 52 }:=⟨_,by conv=>rhs;whnf⟩
noncomputable abbrev s_place_of_part:Stmt:=w_place_of_part.1
noncomputable def w_Day_init:{ s:Stmt // s=inClass (top 53) 0 }:=⟨_,by conv=>rhs;whnf⟩
noncomputable abbrev s_Day_init:Stmt:=w_Day_init.1
noncomputable def w_Day_due:{ s:Stmt // s=inClass (top 53) 1 }:=⟨_,by conv=>rhs;whnf⟩
noncomputable abbrev s_Day_due:Stmt:=w_Day_due.1
noncomputable def w_ahead:{ s:Stmt // s=top 55 }:=⟨_,by conv=>rhs;whnf⟩
noncomputable abbrev s_ahead:Stmt:=w_ahead.1
noncomputable def w_Lcell:{ s:Stmt // s=top 57 }:=⟨_,by conv=>rhs;whnf⟩
noncomputable abbrev s_Lcell:Stmt:=w_Lcell.1
noncomputable def w_Lmix:{ s:Stmt // s=top 58 }:=⟨_,by conv=>rhs;whnf⟩
noncomputable abbrev s_Lmix:Stmt:=w_Lmix.1
noncomputable def w_Lwhole:{ s:Stmt // s=top 59 }:=⟨_,by conv=>rhs;whnf⟩
noncomputable abbrev s_Lwhole:Stmt:=w_Lwhole.1
noncomputable def w_Lday:{ s:Stmt // s=top 60 }:=⟨_,by conv=>rhs;whnf⟩
noncomputable abbrev s_Lday:Stmt:=w_Lday.1
noncomputable def w_Lrules:{ s:Stmt // s=top 61 }:=⟨_,by conv=>rhs;whnf⟩
noncomputable abbrev s_Lrules:Stmt:=w_Lrules.1
noncomputable def w_Lsetting:{ s:Stmt // s=top 62 }:=⟨_,by conv=>rhs;whnf⟩
noncomputable abbrev s_Lsetting:Stmt:=w_Lsetting.1
noncomputable def w_Ldue:{ s:Stmt // s=top 63 }:=⟨_,by conv=>rhs;whnf⟩
noncomputable abbrev s_Ldue:Stmt:=w_Ldue.1
noncomputable def w_Ldeed:{ s:Stmt // s=top 64 }:=⟨_,by conv=>rhs;whnf⟩
noncomputable abbrev s_Ldeed:Stmt:=w_Ldeed.1
noncomputable def w_Lnew:{ s:Stmt // s=top 65 }:=⟨_,by conv=>rhs;whnf⟩
noncomputable abbrev s_Lnew:Stmt:=w_Lnew.1
noncomputable def w_Lroom:{ s:Stmt // s=top 66 }:=⟨_,by conv=>rhs;whnf⟩
noncomputable abbrev s_Lroom:Stmt:=w_Lroom.1
noncomputable def w_Ltick:{ s:Stmt // s=top 67 }:=⟨_,by conv=>rhs;whnf⟩
noncomputable abbrev s_Ltick:Stmt:=w_Ltick.1
noncomputable def w_Lreport:{ s:Stmt // s=top 68 }:=⟨_,by conv=>rhs;whnf⟩
noncomputable abbrev s_Lreport:Stmt:=w_Lreport.1
noncomputable def w_Ldone:{ s:Stmt // s=top 69 }:=⟨_,by conv=>rhs;whnf⟩
noncomputable abbrev s_Ldone:Stmt:=w_Ldone.1
noncomputable def w_Lasked:{ s:Stmt // s=top 70 }:=⟨_,by conv=>rhs;whnf⟩
noncomputable abbrev s_Lasked:Stmt:=w_Lasked.1
noncomputable def w_Lis:{ s:Stmt // s=top 71 }:=⟨_,by conv=>rhs;whnf⟩
noncomputable abbrev s_Lis:Stmt:=w_Lis.1
noncomputable def w_Lsame:{ s:Stmt // s=top 72 }:=⟨_,by conv=>rhs;whnf⟩
noncomputable abbrev s_Lsame:Stmt:=w_Lsame.1
noncomputable def w_Lstart:{ s:Stmt // s=top 73 }:=⟨_,by conv=>rhs;whnf⟩
noncomputable abbrev s_Lstart:Stmt:=w_Lstart.1
noncomputable def w_Llines:{ s:Stmt // s=top 74 }:=⟨_,by conv=>rhs;whnf⟩
noncomputable abbrev s_Llines:Stmt:=w_Llines.1
noncomputable def w_law:{ s:Stmt // s=top 75 }:=⟨_,by conv=>rhs;whnf⟩
noncomputable abbrev s_law:Stmt:=w_law.1
structure Fn (P:Program) (w:World) (K:PySem.W.Frag) (mg:Str→Option Value) (base:Heap) (CX:CXT) (k:Nat) (x:Str) (ps:List Str) (sp:Sp) (f:Addr) (fd:FuncData):Prop where
  ok:FnOk P w K mg base CX k f fd ps sp
  m:mg x=some (.ref f)
  kp:PySem.W.keepIn K (.ref f)=true
  b:Binds K fd ps []
structure Mc (P:Program) (w:World) (K:PySem.W.Frag) (mg:Str→Option Value) (base:Heap) (CX:CXT) (k:Nat) (x:Str) (C:Addr) (ps:List Str) (sp:Sp) (f:Addr) (fd:FuncData):Prop where
  ok:FnOk P w K mg base CX k f fd ps sp
  m:mg x=some (.ref C)
  mkk:Mk K C f
  b:Binds K fd ps []
structure Mt (P:Program) (w:World) (K:PySem.W.Frag) (mg:Str→Option Value) (base:Heap) (CX:CXT) (k:Nat) (x:Str) (C:Addr) (ps:List Str) (sp:Sp) (f:Addr) (fd:FuncData):Prop where
  ok:FnOk P w K mg base CX k f fd ps sp
  cl:Cls K C
  mt:Meth K C x f
  b:Binds K fd ps []
noncomputable def big (n:Int):Prop:=-9000000000000000000 < n∧n < 9000000000000000000
section
variable {P:Program}{w:World}{K:PySem.W.Frag}{mg:Str→Option Value}{base:Heap}
/-! ### check_between -/
noncomputable def spCB (CB:Addr):Sp:=fun vs H Q E=>∃ (t:Str) (n lo hi:Int),vs = [.str t,.int n,.int lo,.int hi]∧t.length≤100000∧(-9000000000000000000 < n∧n < 9000000000000000000)∧(-9000000000000000000 < lo∧lo < 9000000000000000000)∧(-9000000000000000000 < hi∧hi < 9000000000000000000) ∧
  ((lo≤n∧n≤hi)→Q .non H)∧(¬ (lo≤n∧n≤hi)→E (.ref CB) none H)
structure ZCB (K:PySem.W.Frag) (mg:Str→Option Value) (CB:Addr):Prop where
  xBadSetting:ExcV K CB
  BadSetting:mg "BadSetting"=some (.ref CB)
theorem sccheck_between:FnScope ["what", "number", "least", "most"] ["what", "number", "least", "most"] (defScope s_check_between):=⟨rfl,rfl,rfl,by decide +kernel,rfl,by decide +kernel,by decide +kernel⟩
theorem ok_check_between {f CB:Addr}{fd:FuncData} (F:Fun K "check_between" "check_between" s_check_between f fd) (Z:ZCB K mg CB):FnOk P w K mg base (CXE P w) 1 f fd ["what", "number", "least", "most"] (spCB CB):=by
  refine F.okX sccheck_between (fun vs H Q E h=>?_) (fun cdv A outer s H vs Q E hr h=>?_)
  · obtain ⟨t,n,lo,hi,rfl,_⟩:=h
    rfl
  obtain ⟨t,n,lo,hi,rfl,ht,hn,hlo,hhi,q,e⟩:=h
  refine ⟨_,%[%[(PW.pt %[%[op_lt,s!"1",s!"2",(nomark _)|9],(@pw_or1 _ _ _ _ %[op_gt,s!"1",s!"3",(nomark _)|9])|21]),%[(@ps_raise _ _ _ _ _ _ _ _ _ _ (raises_fn own_cxOf) rfl Z.xBadSetting rfl Z.BadSetting %[(@pe_join _ _ _ _ _ _ %[(@pe_fmtS _ _ _ _ s!"0"),%[s!"s",%[(@pe_fmtI _ _ _ _ s!"1"),%[s!"s",%[(@pe_fmtI _ _ _ _ s!"2"),%[s!"s",%[(@pe_fmtI _ _ _ _ s!"3"),(@pj_nil _)|17]|17]|17]|17]|17]|17]|17] s!"d"),s!"n",s!"g"|0] s!"g" rfl s!"d")|4],s!"z"|10]|4],?_⟩
  by_cases hg:lo≤n∧n≤hi
  · walk_at "rd"
    exact q hg
  · have e:=e hg
    by_cases h1:n < lo
    · walk_at "rd"
      exact e
    · walk_at "rd"
      exact e
/-! ### rates -/
noncomputable def spBy (K:PySem.W.Frag):Sp:=fun vs H Q _=>∃ (r:Addr) (d p t:Int),vs = [.ref r,.int t]∧SqT K H r [.int d,.int p]∧(0≤d∧d≤1000000)∧(1≤p∧p≤1000000)∧Q (.int (d * t / p)) H
noncomputable def spAt (K:PySem.W.Frag):Sp:=fun vs H Q _=>∃ (r:Addr) (d p t:Int),vs = [.ref r,.int t]∧SqT K H r [.int d,.int p]∧(0≤d∧d≤1000000)∧(1≤p∧p≤1000000)∧Q (.int (d * (t + 1) / p - d * t / p)) H
theorem scdrops_by:FnScope ["rate", "ticks", "drops", "span"] ["rate", "ticks"] (defScope s_drops_by):=⟨rfl,rfl,rfl,by decide +kernel,rfl,by decide +kernel,by decide +kernel⟩
theorem ok_drops_by {f:Addr}{fd:FuncData} (F:Fun K "drops_by" "drops_by" s_drops_by f fd):FnOk P w K mg base CX0 1 f fd ["rate", "ticks"] (spBy K):=by
  refine F.ok scdrops_by (fun vs H Q E h=>?_) (fun cdv A outer s H vs Q E hr h=>?_)
  · obtain ⟨r,d,p,t,rfl,_⟩:=h
    rfl
  obtain ⟨r,d,p,t,rfl,hT,hd,hp,q⟩:=h
  refine ⟨_,%[%[(2),_,_,_,_,scdrops_by.nd,rfl,(Or.inl rfl),%[ix_tup,s!"0",s!"i",(fun _ _=>rfl)|8],s!"g",s!"f"|12],%[%[(3),_,_,_,_,scdrops_by.nd,rfl,(Or.inl rfl),%[ix_tup,s!"0",s!"i",(fun _ _=>rfl)|8],s!"g",s!"f"|12],%[%[%[op_eq,s!"3",s!"i",(nomark _)|9],%[%[s!"i"|11]|4],s!"z"|10],%[%[%[op_fdiv,%[op_mul,s!"2",s!"1"|3],s!"3"|3]|11]|4]|2]|2]|2],?_⟩
  walk_at "rd"
  exact q
theorem scdrops_at:FnScope ["rate", "tick"] ["rate", "tick"] (defScope s_drops_at):=⟨rfl,rfl,rfl,by decide +kernel,rfl,by decide +kernel,by decide +kernel⟩
theorem ok_drops_at {f f1:Addr}{fd fd1:FuncData} (F:Fun K "drops_at" "drops_at" s_drops_at f fd) (B_drops_by:Fn P w K mg base CX0 1 "drops_by" ["rate", "ticks"] (spBy K) f1 fd1):FnOk P w K mg base CX0 2 f fd ["rate", "tick"] (spAt K):=by
  refine F.ok scdrops_at (fun vs H Q E h=>?_) (fun cdv A outer s H vs Q E hr h=>?_)
  · obtain ⟨r,d,p,t,rfl,_⟩:=h
    rfl
  obtain ⟨r,d,p,t,rfl,hT,hd,hp,q⟩:=h
  refine ⟨_,%[%[%[op_sub,%[B_drops_by.ok,s!"h",rfl,B_drops_by.m,B_drops_by.kp,B_drops_by.b,.nil,pass0,%[s!"0",%[%[op_add,s!"1",s!"i"|3],s!"n",s!"g"|0],s!"g"|0],s!"d",s!"g",rfl|1],%[B_drops_by.ok,s!"h",rfl,B_drops_by.m,B_drops_by.kp,B_drops_by.b,.nil,pass0,%[s!"0",%[s!"1",s!"n",s!"g"|0],s!"g"|0],s!"d",s!"g",rfl|1]|3]|11]|4],?_⟩
  walk_at "rd"
  refine ⟨r,d,p,t + 1,rfl,hT,hd,hp,?_⟩
  walk_at "rd"
  refine ⟨r,d,p,t,rfl,hT,hd,hp,?_⟩
  walk_at "rd"
  exact q
/-! ### parts -/
noncomputable abbrev Part:=DayM.Part
noncomputable def q3 (q:Part):List V:=[.int q.1,.int q.2.1,.int q.2.2]
noncomputable def lst (ps:List Part):Nat→Int
  | 0=>0
  | i + 1=>(ps.getD i DayM.nil3).1 + 1
noncomputable def PGood (ticks least:Int) (q:Part):Prop:=(least≤q.1∧q.1≤ticks - 1)∧(0≤q.2.1∧q.2.1≤1000000)∧(1≤q.2.2∧q.2.2≤1000000)
noncomputable def Bd (n:Int):Prop:=-1000000000000000000 < n∧n < 1000000000000000000
noncomputable def BdP (q:Part):Prop:=Bd q.1∧Bd q.2.1∧Bd q.2.2
structure Tups (K:PySem.W.Frag) (H:Hp) (rs:List Addr) (ps:List Part):Prop where
  len:rs.length=ps.length
  at_:∀ i r,rs[i]?=some r→SqT K H r (q3 (ps.getD i DayM.nil3))
theorem Tups.same {H H':Hp}{rs:List Addr}{ps:List Part} (t:Tups K H rs ps) (s:Same H H'):Tups K H' rs ps:=⟨t.len,fun i r e=>s.tup (t.at_ i r e)⟩
theorem Tups.upd {H:Hp}{rs:List Addr}{ps:List Part}{b:Addr}{u o:HO} (t:Tups K H rs ps) (e:H b=some u) (hu:Mut (some u)):Tups K (L2.upd H b o) rs ps:=⟨t.len,fun i r z=>(t.at_ i r z).upd e hu⟩
noncomputable def spCP (K:PySem.W.Frag) (CB:Addr):Sp:=fun vs H Q E=>∃ (ticks least:Int) (r:Addr) (q:Part),vs = [.int ticks,.int least,.ref r]∧SqT K H r (q3 q)∧Bd ticks∧Bd least∧BdP q ∧
  (PGood ticks least q→Q .non H)∧(¬ PGood ticks least q→E (.ref CB) none H)
structure ZC (mg:Str→Option Value):Prop where
  MOST_DROPS_rates:∃ t,mg "MOST_DROPS_rates"=some (.int 1000000 t)
  MOST_TICKS:∃ t,mg "MOST_TICKS"=some (.int 1000000 t)
  len:mg "len"=none
  zip:mg "zip"=none
  tuple:mg "tuple"=none
structure ZD (K:PySem.W.Frag) (mg:Str→Option Value) (CB:Addr):Prop extends ZCB K mg CB,ZC mg
theorem sccheck_part:FnScope ["ticks", "least", "part"] ["ticks", "least", "part"] (defScope s_check_part):=⟨rfl,rfl,rfl,by decide +kernel,rfl,by decide +kernel,by decide +kernel⟩
theorem ok_check_part {f f1 CB:Addr}{fd fd1:FuncData} (F:Fun K "check_part" "check_part" s_check_part f fd) (Z:ZC mg) (B_check_between:Fn P w K mg base (CXE P w) 1 "check_between" ["what", "number", "least", "most"] (spCB CB) f1 fd1):FnOk P w K mg base (CXE P w) 2 f fd ["ticks", "least", "part"] (spCP K CB):=by
  refine F.okX sccheck_part (fun vs H Q E h=>?_) (fun cdv A outer s H vs Q E hr h=>?_)
  · obtain ⟨ticks,least,r,⟨a,d,p⟩,rfl,_⟩:=h
    rfl
  obtain ⟨ticks,least,r,⟨a,d,p⟩,rfl,hT,ht,hl,⟨ha,hd,hp⟩,q,e⟩:=h
  have hT:SqT K H r [.int a,.int d,.int p]:=hT
  unfold Bd at ht hl ha hd hp
  unfold PGood at q e
  dsimp only at ha hd hp q e
  refine ⟨_,%[%[%[B_check_between.ok,s!"h",rfl,B_check_between.m,B_check_between.kp,B_check_between.b,.nil,(passes_fn own_cxOf),%[s!"s",%[%[ix_tup,s!"2",s!"i",(fun _ _=>rfl)|8],%[s!"1",%[%[op_sub,s!"0",s!"i"|3],s!"n",s!"g"|0],s!"g"|0],s!"g"|0],s!"g"|0],s!"d",s!"g",rfl|1],s!"g"|18],%[%[%[B_check_between.ok,s!"h",rfl,B_check_between.m,B_check_between.kp,B_check_between.b,.nil,(passes_fn own_cxOf),%[s!"s",%[%[ix_tup,s!"2",s!"i",(fun _ _=>rfl)|8],%[s!"i",%[(@pe_globI _ _ (1000000) _ rfl Z.MOST_DROPS_rates s!"d"),s!"n",s!"g"|0],s!"g"|0],s!"g"|0],s!"g"|0],s!"d",s!"g",rfl|1],s!"g"|18],%[%[%[B_check_between.ok,s!"h",rfl,B_check_between.m,B_check_between.kp,B_check_between.b,.nil,(passes_fn own_cxOf),%[s!"s",%[%[ix_tup,s!"2",s!"i",(fun _ _=>rfl)|8],%[s!"i",%[(@pe_globI _ _ (1000000) _ rfl Z.MOST_TICKS s!"d"),s!"n",s!"g"|0],s!"g"|0],s!"g"|0],s!"g"|0],s!"d",s!"g",rfl|1],s!"g"|18]|4]|2]|2],?_⟩
  walk_at "rd"
  walk_at "cb"
  · walk_at "rd"
    walk_at "cb"
    · walk_at "rd"
      walk_at "cb"
      · walk_at "rd"
        exact q (by omega)
      · exact e (by omega)
    · exact e (by omega)
  · exact e (by omega)
/-! ### days -/
structure PartsL (K:PySem.W.Frag) (H:Hp) (a:Addr) (rs:List Addr) (ps:List Part):Prop where
  sq:SqL K H a (rs.map V.ref)
  tp:Tups K H rs ps
structure PartsT (K:PySem.W.Frag) (H:Hp) (a:Addr) (rs:List Addr) (ps:List Part):Prop where
  sq:SqT K H a (rs.map V.ref)
  tp:Tups K H rs ps
noncomputable def spCD (K:PySem.W.Frag) (CB:Addr):Sp:=fun vs H Q E=>∃ (ticks:Int) (a:Addr) (rs:List Addr) (ps:List Part),vs = [.int ticks,.ref a]∧PartsL K H a rs ps∧Bd ticks∧(∀ q ∈ ps,BdP q) ∧
  (DayM.Ok ticks ps→Q .non H)∧(¬ DayM.Ok ticks ps→E (.ref CB) none H)
theorem good_of_ok {ticks:Int}{ps:List Part} (o:DayM.Ok ticks ps) {i:Nat} (hi:i < ps.length):PGood ticks (lst ps i) (ps.getD i DayM.nil3):=by
  have h:=o.b i hi
  refine ⟨⟨?_,by omega⟩,by omega,by omega⟩
  cases i with
  | zero=>show (0:Int)≤_;rw [o.z];exact Int.le_refl 0
  | succ i =>
    have:=o.up i hi
    show (ps.getD i DayM.nil3).1 + 1≤_
    omega
theorem ok_of_good {ticks:Int}{ps:List Part} (ht:1≤ticks∧ticks≤1000000) (hn:0 < ps.length) (hz:(ps.getD 0 DayM.nil3).1=0) (h:∀ i,i < ps.length→PGood ticks (lst ps i) (ps.getD i DayM.nil3)):DayM.Ok ticks ps:=by
  refine ⟨ht.1,ht.2,hn,hz,fun i hi=>?_,fun i hi=>?_⟩
  · have h1:=(h (i + 1) hi).1.1
    have h2:lst ps (i + 1)=(ps.getD i DayM.nil3).1 + 1:=rfl
    omega
  · obtain ⟨h1,h2,h3⟩:=h i hi
    omega
theorem getRef {rs:List Addr}{i:Nat}{x:V} (h:(rs.map V.ref)[i]?=some x):∃ r,x = .ref r∧rs[i]?=some r∧i < rs.length:=by
  rw [List.getElem?_map] at h
  cases e:rs[i]? with
  | none=>rw [e] at h;cases h
  | some r=>rw [e] at h;exact ⟨r,(Option.some.inj h).symm,rfl,(List.getElem?_eq_some_iff.mp e).1⟩
theorem getD_mem' {ps:List Part}{i:Nat} (h:i < ps.length):ps.getD i DayM.nil3 ∈ ps:=by
  rw [List.getD_eq_getElem?_getD,List.getElem?_eq_getElem h]
  exact List.getElem_mem h
theorem sccheck_day:FnScope ["ticks", "parts", "least", "part"] ["ticks", "parts"] (defScope s_check_day):=⟨rfl,rfl,rfl,by decide +kernel,rfl,by decide +kernel,by decide +kernel⟩
theorem ok_check_day {f f1 f2 CB:Addr}{fd fd1 fd2:FuncData} (F:Fun K "check_day" "check_day" s_check_day f fd) (Z:ZD K mg CB) (B_check_between:Fn P w K mg base (CXE P w) 1 "check_between" ["what", "number", "least", "most"] (spCB CB) f1 fd1)
    (B_check_part:Fn P w K mg base (CXE P w) 2 "check_part" ["ticks", "least", "part"] (spCP K CB) f2 fd2):FnOk P w K mg base (CXE P w) 3 f fd ["ticks", "parts"] (spCD K CB):=by
  refine F.okX sccheck_day (fun vs H Q E h=>?_) (fun cdv A outer s H vs Q E hr h=>?_)
  · obtain ⟨ticks,a,rs,ps,rfl,_⟩:=h
    rfl
  obtain ⟨ticks,a,rs,ps,rfl,⟨hS,hT⟩,ht,hb,q,e⟩:=h
  unfold Bd at ht
  have hlen:=hT.len
  refine ⟨_,%[%[%[B_check_between.ok,s!"h",rfl,B_check_between.m,B_check_between.kp,B_check_between.b,.nil,(passes_fn own_cxOf),%[s!"s",%[s!"0",%[s!"i",%[(@pe_globI _ _ (1000000) _ rfl Z.MOST_TICKS s!"d"),s!"n",s!"g"|0],s!"g"|0],s!"g"|0],s!"g"|0],s!"d",s!"g",rfl|1],s!"g"|18],%[%[%[op_eq,%[call_len_seq,rfl,Z.len,s!"k",%[s!"1",s!"n",s!"g"|0],s!"d",s!"d",s!"g",rfl|6],s!"i",(nomark _)|9],%[(@ps_raise _ _ _ _ _ _ _ _ _ _ (raises_fn own_cxOf) rfl Z.xBadSetting rfl Z.BadSetting %[s!"s",s!"n",s!"g"|0] s!"g" rfl s!"d")|4],s!"z"|10],%[%[%[op_ne,%[ix_tup,%[ix_list,s!"1",s!"i",(fun _ _=>rfl)|8],s!"i",(fun _ _=>rfl)|8],s!"i",(nomark _)|9],%[(@ps_raise _ _ _ _ _ _ _ _ _ _ (raises_fn own_cxOf) rfl Z.xBadSetting rfl Z.BadSetting %[s!"s",s!"n",s!"g"|0] s!"g" rfl s!"d")|4],s!"z"|10],%[%[(2),_,_,_,_,sccheck_day.nd,rfl,(Or.inl rfl),s!"i",s!"g",s!"f"|12],%[(@ps_for _ _ _ _ _ _ _ _ (passesOwn_fn own_cxOf) rfl (@pi_list _ _ _ _ s!"1") (@pg_name _ _ (3) _ sccheck_day.nd rfl (Or.inl rfl) s!"f") %[%[%[B_check_part.ok,s!"h",rfl,B_check_part.m,B_check_part.kp,B_check_part.b,.nil,(passes_fn own_cxOf),%[s!"0",%[s!"2",%[s!"3",s!"n",s!"g"|0],s!"g"|0],s!"g"|0],s!"d",s!"g",rfl|1],s!"g"|18],%[%[(2),_,_,_,_,sccheck_day.nd,rfl,(Or.inl rfl),%[op_add,%[ix_tup,s!"3",s!"i",(fun _ _=>rfl)|8],s!"i"|3],s!"g",s!"f"|12]|4]|2] s!"g")|4]|2]|2]|2]|2],?_⟩
  walk_at "rd"
  walk_at "cb"
  · walk_at "rd"
    refine it2 (fun h0=>?_) (fun h0=>?_)
    · have h0:=V.intInj h0
      rw [List.length_map] at h0
      walk_at "rd"
      exact e fun o=>by have:=o.ne;omega
    have h0:0 < rs.length:=by
      rw [List.length_map] at h0
      have h1:(rs.length:Int) ≠ 0:=fun z=>h0 (intEq z)
      omega
    obtain ⟨r0,er0⟩:∃ r0,rs[0]?=some r0:=⟨rs[0],List.getElem?_eq_getElem h0⟩
    have hr0:=hT.at_ 0 r0 er0
    have ha0:atI (rs.map V.ref) 0=some (.ref r0):=atI_nat (j:=0) (by rw [List.getElem?_map,er0];rfl)
    walk_at "rd"
    refine nt2 (fun hz=>?_) (fun hz=>?_)
    · walk_at "rd"
      exact e fun o=>hz (intEq o.z)
    have hz:=V.intInj hz
    walk_at "rd"
    refine for_list (xs:=rs.map V.ref) (fun i σ H2=>H2=H∧∃ v3,σ = [some (.int ticks),some (.ref a),some (.int (lst ps i)),v3]∧∀ j,j < i→PGood ticks (lst ps j) (ps.getD j DayM.nil3)) ?_ ?_ ?_ ?_
    · exact ⟨rfl,none,rfl,fun j hj=>absurd hj (Nat.not_lt_zero j)⟩
    · rintro i σ H2 _ ⟨rfl,_⟩
      exact hS
    · rintro i x σ H2 hx ⟨rfl,v3,rfl,hall⟩
      obtain ⟨r,rfl,er,hi⟩:=getRef hx
      have hTr:=hT.at_ i r er
      have hmem:=hb _ (getD_mem' (i:=i) (by omega))
      have hlst:Bd (lst ps i):=by
        cases i with
        | zero=>exact ⟨by show (-1000000000000000000:Int) < 0;decide,by show (0:Int) < 1000000000000000000;decide⟩
        | succ i =>
          have h1:=hall i (Nat.lt_succ_self i)
          show Bd ((ps.getD i DayM.nil3).1 + 1)
          have h2:=(hb _ (getD_mem' (i:=i) (by omega))).1
          have h3:=h1.1.2
          unfold Bd at h2 ⊢
          omega
      walk_at "rd"
      refine ⟨ticks,lst ps i,r,ps.getD i DayM.nil3,rfl,hTr,ht,hlst,hmem,fun hg=>?_,fun hg=>?_⟩
      · walk_at "rd"
        intro j hj
        rcases Nat.lt_succ_iff_lt_or_eq.mp hj with z | z
        · exact hall j z
        · rw [z];exact hg
      · exact e fun o=>hg (good_of_ok o (by omega))
    · rintro σ H2 ⟨rfl,v3,rfl,hall⟩
      rw [List.length_map] at hall
      exact q (ok_of_good (by omega) (by omega) hz fun i hi=>hall i (by omega))
  · exact e fun o=>by have:=o.t1;have:=o.t2;omega
noncomputable def spDW (K:PySem.W.Frag):Sp:=fun vs H Q _=>∃ (r:Addr) (q:Part) (t:Int),vs = [.ref r,.int t]∧SqT K H r (q3 q)∧(0≤q.2.1∧q.2.1≤1000000)∧(1≤q.2.2∧q.2.2≤1000000)∧∀ H',Same H H'→Q (.int (DayM.dw q t)) H'
theorem scdrops_within:FnScope ["part", "tick"] ["part", "tick"] (defScope s_drops_within):=⟨rfl,rfl,rfl,by decide +kernel,rfl,by decide +kernel,by decide +kernel⟩
theorem ok_drops_within {f f1:Addr}{fd fd1:FuncData} (F:Fun K "drops_within" "drops_within" s_drops_within f fd) (B_drops_by:Fn P w K mg base CX0 1 "drops_by" ["rate", "ticks"] (spBy K) f1 fd1):FnOk P w K mg base CX0 2 f fd ["part", "tick"] (spDW K):=by
  refine F.ok scdrops_within (fun vs H Q E h=>?_) (fun cdv A outer s H vs Q E hr h=>?_)
  · obtain ⟨r,⟨a,d,p⟩,t,rfl,_⟩:=h
    rfl
  obtain ⟨r,⟨a,d,p⟩,t,rfl,hT,hd,hp,q⟩:=h
  have hT:SqT K H r [.int a,.int d,.int p]:=hT
  dsimp only at hd hp
  refine ⟨_,%[%[%[B_drops_by.ok,s!"h",rfl,B_drops_by.m,B_drops_by.kp,B_drops_by.b,.nil,pass0,%[(@pe_tup _ _ _ _ _ %[%[ix_tup,s!"0",s!"i",(fun _ _=>rfl)|8],%[%[ix_tup,s!"0",s!"i",(fun _ _=>rfl)|8],s!"n",s!"g"|0],s!"g"|0]),%[%[op_sub,s!"1",%[ix_tup,s!"0",s!"i",(fun _ _=>rfl)|8]|3],s!"n",s!"g"|0],s!"g"|0],s!"d",s!"g",rfl|1]|11]|4],?_⟩
  walk_at "rd"
  intro p1 n1
  have s1:=Same.new n1 (.tup [.int d,.int p])
  walk_at "rd"
  refine ⟨p1,d,p,_,rfl,SqT.of upd_same,hd,hp,?_⟩
  exact q _ s1
/-! ### the place of a part -/
noncomputable def spPl (K:PySem.W.Frag):Sp:=fun vs H Q _=>∃ (a:Addr) (rs:List Addr) (ticks:Int) (ps:List Part) (t:Int),vs = [.ref a,.int t]∧PartsT K H a rs ps∧DayM.Ok ticks ps∧0≤t∧Q (.int (DayM.plc ps t:Nat)) H
theorem atRef {rs:List Addr}{i:Nat} (h:i < rs.length):∃ r,rs[i]?=some r∧atI (rs.map V.ref) (i:Int)=some (.ref r):=by
  have e:=List.getElem?_eq_getElem h
  exact ⟨rs[i],e,atI_nat (by rw [List.getElem?_map,e];rfl)⟩
theorem scplace_of_part:FnScope ["parts", "tick", "low", "high", "middle"] ["parts", "tick"] (defScope s_place_of_part):=⟨rfl,rfl,rfl,by decide +kernel,rfl,by decide +kernel,by decide +kernel⟩
theorem ok_place_of_part {f:Addr}{fd:FuncData} (F:Fun K "place_of_part" "place_of_part" s_place_of_part f fd) (Z:ZC mg):FnOk P w K mg base CX0 1 f fd ["parts", "tick"] (spPl K):=by
  refine F.ok scplace_of_part (fun vs H Q E h=>?_) (fun cdv A outer s H vs Q E hr h=>?_)
  · obtain ⟨a,rs,ticks,ps,t,rfl,_⟩:=h
    rfl
  obtain ⟨a,rs,ticks,ps,t,rfl,⟨hS,hT⟩,o,h0,q⟩:=h
  have hlen:=hT.len
  have hne:=o.ne
  refine ⟨_,%[%[(2),_,_,_,_,scplace_of_part.nd,rfl,(Or.inl rfl),s!"i",s!"g",s!"f"|12],%[%[(3),_,_,_,_,scplace_of_part.nd,rfl,(Or.inl rfl),%[call_len_seq,rfl,Z.len,s!"k",%[s!"0",s!"n",s!"g"|0],s!"d",s!"d",s!"g",rfl|6],s!"g",s!"f"|12],%[(@ps_while _ _ _ _ _ _ PassesOwn.never %[op_gt,%[op_sub,s!"3",s!"2"|3],s!"i",(nomark _)|9] %[%[(4),_,_,_,_,scplace_of_part.nd,rfl,(Or.inl rfl),%[op_fdiv,%[op_add,s!"2",s!"3"|3],s!"i"|3],s!"g",s!"f"|12],%[%[%[op_le,%[ix_tup,%[ix_tup,s!"0",s!"4",(fun _ _=>rfl)|8],s!"i",(fun _ _=>rfl)|8],s!"1",(nomark _)|9],%[%[(2),_,_,_,_,scplace_of_part.nd,rfl,(Or.inl rfl),s!"4",s!"g",s!"f"|12]|4],%[%[(3),_,_,_,_,scplace_of_part.nd,rfl,(Or.inl rfl),s!"4",s!"g",s!"f"|12]|4]|10]|4]|2]),%[%[s!"2"|11]|4]|2]|2]|2],?_⟩
  walk_at "rd"
  rw [List.length_map]
  refine while_by (fun σ H2=>H2=H∧∃ (lo hi:Nat) (v4:Option V),σ = [some (.ref a),some (.int t),some (.int (lo:Int)),some (.int (hi:Int)),v4]∧lo < hi∧hi≤ps.length∧(ps.getD lo DayM.nil3).1≤t∧(hi < ps.length→t < (ps.getD hi DayM.nil3).1))
    (fun σ _=>match σ with | [_,_,some (.int lo),some (.int hi),_]=>(hi - lo).toNat | _=>0) ?_ ?_ ?_
  · exact ⟨rfl,0,ps.length,none,by rw [hlen];rfl,hne,Nat.le_refl _,by rw [o.z];exact h0,fun z=>absurd z (Nat.lt_irrefl _)⟩
  · rintro σ H2 ⟨rfl,lo,hi,v4,rfl,h1,h2,h3,h4⟩
    walk_at "rd"
    refine it2 (fun hgt=>?_) (fun hgt=>?_)
    · walk_at "rd"
      have em:((lo:Int) + (hi:Int)) / 2=(((lo + hi) / 2:Nat):Int):=by omega
      obtain ⟨r,er,ar⟩:=atRef (rs:=rs) (i:=(lo + hi) / 2) (by omega)
      rw [← em] at ar
      have hTr:=hT.at_ _ r er
      walk_at "rd"
      refine it2 (fun hle=>?_) (fun hle=>?_)
      · walk_at "rd"
        refine ⟨⟨rfl,(lo + hi) / 2,hi,_,by rw [← em];rfl,by omega,h2,hle,h4⟩,?_⟩
        show ((hi:Int) - ((lo:Int) + (hi:Int)) / 2).toNat < ((hi:Int) - (lo:Int)).toNat
        omega
      · walk_at "rd"
        refine ⟨⟨rfl,lo,(lo + hi) / 2,_,by rw [← em];rfl,by omega,by omega,h3,fun _=>by omega⟩,?_⟩
        show (((lo:Int) + (hi:Int)) / 2 - (lo:Int)).toNat < ((hi:Int) - (lo:Int)).toNat
        omega
    · walk_at "rd"
      have e:hi=lo + 1:=by omega
      subst e
      have u:=DayM.IsPl.uniq o (DayM.plc_is o h0) ⟨by omega,h3,h4⟩
      rw [u] at q
      exact q
  · rintro σ H2 Q1 Q2 hQ ⟨x,e1,y,e2,i,j,e3,e4,i',j',e5,e6,k,e7,z⟩
    exact ⟨x,e1,y,e2,i,j,e3,e4,i',j',e5,e6,k,e7,hQ _ _ z⟩
end
end Sp

set_option Elab.async false
set_option linter.all false
set_option maxRecDepth 100000
set_option maxHeartbeats 4000000


namespace Sp
open PySem L2
section
variable {P:Program}{w:World}{K:PySem.W.Frag}{mg:Str→Option Value}{base:Heap}
theorem cut_from {xs:List V}{k:Nat}:cutV xs (some (k:Int)) none=xs.drop k:=by
  unfold cutV
  rw [HT.sIx_nat,HT.sIx_none]
  by_cases h:k≤xs.length
  · rw [Nat.min_eq_left h,List.take_of_length_le (by rw [List.length_drop];omega)]
  · rw [Nat.min_eq_right (by omega),List.drop_eq_nil_of_le (Nat.le_refl _),List.drop_eq_nil_of_le (by omega),List.take_nil]
noncomputable def sumsV (ticks:Int) (ps:List Part) (n:Nat):List V:=(List.range (n + 1)).map fun j=>V.int (DayM.sumAt ticks ps j)
theorem sumsV_len {ticks:Int}{ps:List Part}{n:Nat}:(sumsV ticks ps n).length=n + 1:=by unfold sumsV;simp
theorem sumsV_at {ticks:Int}{ps:List Part}{n j:Nat} (h:j≤n):(sumsV ticks ps n)[j]?=some (.int (DayM.sumAt ticks ps j)):=by
  unfold sumsV
  rw [List.getElem?_map,List.getElem?_range (by omega)]
  rfl
theorem sumsV_succ {ticks:Int}{ps:List Part}{n:Nat}:sumsV ticks ps (n + 1)=sumsV ticks ps n ++ [.int (DayM.sumAt ticks ps n + DayM.dw (ps.getD n DayM.nil3) (DayM.endOf ticks ps n))]:=by
  unfold sumsV
  rw [List.range_succ,List.map_append]
  rfl
noncomputable def endsV (ticks:Int) (ps:List Part):List V:=((ps.drop 1).map fun q=>V.int q.1) ++ [.int ticks]
theorem endsV_len {ticks:Int}{ps:List Part} (h:0 < ps.length):(endsV ticks ps).length=ps.length:=by
  unfold endsV
  rw [List.length_append,List.length_map,List.length_drop]
  simp
  omega
theorem endsV_at {ticks:Int}{ps:List Part}{i:Nat} (h:i < ps.length):(endsV ticks ps)[i]?=some (.int (DayM.endOf ticks ps i)):=by
  unfold endsV DayM.endOf
  by_cases hi:i + 1 < ps.length
  · rw [if_pos hi,List.getElem?_append_left (by rw [List.length_map,List.length_drop];omega),List.getElem?_map,List.getElem?_drop,Nat.add_comm 1 i,List.getElem?_eq_getElem hi,List.getD_eq_getElem?_getD,List.getElem?_eq_getElem hi]
    rfl
  · rw [if_neg hi,List.getElem?_append_right (by rw [List.length_map,List.length_drop];omega),List.length_map,List.length_drop,show i - (ps.length - 1)=0 by omega]
    rfl
noncomputable def spSA (K:PySem.W.Frag):Sp:=fun vs H Q _=>∃ (ticks:Int) (a:Addr) (rs:List Addr) (ps:List Part),vs = [.int ticks,.ref a]∧PartsL K H a rs ps∧DayM.Ok ticks ps∧ps.length≤100 ∧
  ∀ (l:Addr) (H':Hp),Same H H'→H l=none→H' l=some (.lst (sumsV ticks ps ps.length))→Q (.ref l) H'
theorem scsums_ahead:FnScope ["ticks", "parts", "ends", "sums", "part", "end"] ["ticks", "parts"] (defScope s_sums_ahead):=⟨rfl,rfl,rfl,by decide +kernel,rfl,by decide +kernel,by decide +kernel⟩
theorem ok_sums_ahead {f f1:Addr}{fd fd1:FuncData} (F:Fun K "sums_ahead" "sums_ahead" s_sums_ahead f fd) (Z:ZC mg) (B_drops_within:Fn P w K mg base CX0 2 "drops_within" ["part", "tick"] (spDW K) f1 fd1):FnOk P w K mg base CX0 3 f fd ["ticks", "parts"] (spSA K):=by
  refine F.ok scsums_ahead (fun vs H Q E h=>?_) (fun cdv A outer s H vs Q E hr h=>?_)
  · obtain ⟨ticks,a,rs,ps,rfl,_⟩:=h
    rfl
  obtain ⟨ticks,a,rs,ps,rfl,⟨hS,hT⟩,o,h100,q⟩:=h
  have hlen:=hT.len
  have hne:=o.ne
  refine ⟨_,%[%[(2),_,_,_,_,scsums_ahead.nd,rfl,(Or.inl rfl),%[op_cat,%[(defScope s_sums_ahead),_,(["ticks", "parts", "ends", "sums", "part", "end"]),(["ticks", "parts", "ends", "sums", "", "end", "part"]),(["part"]),_,_,_,_,_,rfl,rfl,rfl,(.of s!"k"),(@pi_list _ _ _ _ (@pe_slice _ _ _ _ _ _ _ _ _ _ sl_list s!"1" (@po_some _ _ _ s!"i") (@po_none _))),takes_name,(fun _ _ _ _ _=>@pg_name _ _ (6) _ (show List.Nodup (["ticks", "parts", "ends", "sums", "", "end", "part"]:List Str) by decide +kernel) rfl (Or.inl rfl) s!"f"),(fun _ _ _ _ _=>@pif_nil _),(fun _ _ _ _ _=>%[(ix_tupK (K:=K) rfl),s!"6",s!"i",(fun _ _=>rfl)|8]),s!"g"|22],%[%[s!"0",s!"n",s!"g"|0]|23]|3],s!"g",s!"f"|12],%[%[(3),_,_,_,_,scsums_ahead.nd,rfl,(Or.inl rfl),%[%[s!"i",s!"n",s!"g"|0]|23],s!"g",s!"f"|12],%[(@ps_for _ _ _ _ _ _ _ _ PassesOwn.never rfl (@pi_zip2 _ _ _ _ _ _ _ _ _ rfl Z.zip %[s!"1",%[s!"2",s!"n",s!"g"|0],s!"g"|0] s!"g" s!"g") (@pg_tup _ _ _ _ _ _ rfl (@pgs_cons _ _ _ _ _ (@pg_name _ _ (4) _ scsums_ahead.nd rfl (Or.inl rfl) s!"f") (@pgs_cons _ _ _ _ _ (@pg_name _ _ (5) _ scsums_ahead.nd rfl (Or.inl rfl) s!"f") (@pgs_nil _) s!"g") s!"g") (by rfl) (by rfl)) %[%[%[PySem.F.plainAttrs_list,PySem.F.slot_list_append,PySem.F.type_list_append,mt_append,s!"3",%[%[op_add,%[ix_list,s!"3",%[op_sub,%[call_len_seq,rfl,Z.len,s!"k",%[s!"3",s!"n",s!"g"|0],s!"d",s!"d",s!"g",rfl|6],s!"i"|3],(fun _ _=>rfl)|8],%[B_drops_within.ok,s!"h",rfl,B_drops_within.m,B_drops_within.kp,B_drops_within.b,.nil,pass0,%[s!"4",%[s!"5",s!"n",s!"g"|0],s!"g"|0],s!"d",s!"g",rfl|1]|3],s!"n",s!"g"|0],s!"g",s!"g",s!"g",s!"g",s!"g"|20],s!"g"|18]|4] s!"g"),%[%[s!"3"|11]|4]|2]|2]|2],?_⟩
  dsimp only [cxOf,Cx.nox]
  walk_at "rd"
  intro p1 n1
  have e1:cutV (rs.map V.ref) (some 1) none=(rs.map V.ref).drop 1:=cut_from (k:=1)
  rw [e1]
  have s1:=Same.new n1 (.lst ((rs.map V.ref).drop 1))
  have h1:(upd H p1 (.lst ((rs.map V.ref).drop 1))) p1=some (.lst ((rs.map V.ref).drop 1)):=upd_same
  generalize upd H p1 (.lst ((rs.map V.ref).drop 1))=H1 at s1 h1 ⊢
  walk_at "rd"
  intro acc n2
  refine comp_list (xs:=(rs.map V.ref).drop 1) (fun i ys H2=>ys=(((ps.drop 1).take i).map fun q=>V.int q.1)∧Same H1 H2∧H2 acc=some (.lst ys)) ?_ ?_ ?_ ?_
  · exact ⟨rfl,Same.new n2 _,upd_same⟩
  · rintro i ys H2 _ ⟨_,s2,_⟩
    exact SqL.of (s2 _ _ h1)
  · rintro i x ys H2 hi hx ⟨rfl,s2,hacc⟩
    rw [List.getElem?_drop] at hx
    obtain ⟨r,rfl,er,hlt⟩:=getRef hx
    have hTr:=hT.at_ (1 + i) r er
    walk_at "rd"
    refine ⟨small1000 (by rw [List.length_map,List.length_take];omega),cstep hi ⟨?_,s2.mut n2,upd_same⟩⟩
    rw [List.take_succ,List.map_append,List.getElem?_drop,List.getElem?_eq_getElem (show 1 + i < ps.length by omega),List.getD_eq_getElem?_getD,List.getElem?_eq_getElem (show 1 + i < ps.length by omega)]
    rfl
  · rintro ys H2 ⟨rfl,s2,hacc⟩
    rw [List.take_of_length_le (by rw [List.length_drop,List.length_drop,List.length_map];omega)] at hacc
    walk_at "rd"
    intro p2 n3
    refine ⟨acc,p2,_,_,rfl,rfl,(by walk_at "hp"),upd_same,(by rw [List.length_map,List.length_drop];exact Nat.le_of_lt (small1000 (by simp;omega))),fun e n4=>?_⟩
    have s3:Same H1 (upd (upd H2 p2 (.lst [.int ticks])) e (.lst (endsV ticks ps))):=(s2.trans (Same.new n3 _)).trans (Same.new n4 _)
    have h3:(upd (upd H2 p2 (.lst [.int ticks])) e (.lst (endsV ticks ps))) e=some (.lst (endsV ticks ps)):=upd_same
    show tSeq _ _ _ _ (upd (upd H2 p2 (.lst [.int ticks])) e (.lst (endsV ticks ps)))
    generalize upd (upd H2 p2 (.lst [.int ticks])) e (.lst (endsV ticks ps))=H3 at s3 h3 ⊢
    have s4:=s1.trans s3
    walk_at "rd"
    intro l n5
    refine ⟨_,rfl,_,rfl,a,e,rfl,⟨_,(by walk_at "sl")⟩,⟨_,(by walk_at "sl")⟩,?_⟩
    refine for_zip (xs:=rs.map V.ref) (ys:=endsV ticks ps) (fun i σ H4=>∃ v4 v5,σ = [some (.int ticks),some (.ref a),some (.ref e),some (.ref l),v4,v5]∧Same H3 H4∧H4 l=some (.lst (sumsV ticks ps i))) ?_ ?_ ?_ ?_ ?_
    · exact ⟨none,none,rfl,Same.new n5 _,upd_same⟩
    · rintro i σ H4 _ ⟨_,_,_,s5,_⟩
      exact ⟨s5.seq (s4.seq hS),SqL.of (s5 _ _ h3)⟩
    · rw [List.length_map,endsV_len hne];exact hlen
    · rintro i x y T σ H4 hx hy ⟨v4,v5,rfl,s5,hl⟩ nT
      obtain ⟨r,rfl,er,hlt⟩:=getRef hx
      rw [endsV_at (by omega)] at hy
      cases hy
      have hTr:=s5.tup (s4.tup (hT.at_ i r er))
      have hat:atI (sumsV ticks ps i) (((sumsV ticks ps i).length:Int) - 1)=some (.int (DayM.sumAt ticks ps i)):=by
        rw [sumsV_len,show (((i + 1:Nat):Int) - 1)=(i:Int) by omega]
        exact atI_nat (sumsV_at (Nat.le_refl i))
      have hb:=o.b i (by omega)
      walk_at "rd"
      refine ⟨r,ps.getD i DayM.nil3,_,rfl,(by walk_at "st"),by omega,by omega,fun H5 s6=>?_⟩
      walk_at "rd"
      refine ⟨(by rw [sumsV_len];exact small1000 (by omega)),?_⟩
      refine ⟨_,_,rfl,((s5.trans (Same.new nT _)).trans s6).mut n5,?_⟩
      rw [upd_same,sumsV_succ]
    · rintro σ H4 ⟨v4,v5,rfl,s5,hl⟩
      rw [List.length_map,hlen] at hl
      walk_at "rd"
      exact q l H4 (s4.trans s5) (s4.free n5) hl
end
end Sp

set_option Elab.async false
set_option linter.all false
set_option maxRecDepth 100000
set_option maxHeartbeats 4000000


namespace Sp
open PySem L2
structure DF where
  ticks:V
  parts:V
  sums:V
noncomputable def dayF (r:DF):List (Str × V):=[("ticks",r.ticks),("parts",r.parts),("sums",r.sums)]
theorem FDay_ticks:Fld dayF "ticks" (·.ticks) (fun r y=>{ r with ticks:=y }):=⟨fun r=>rfl,fun r y=>rfl,fun r=>by show 3 < 1000;decide⟩
theorem FDay_parts:Fld dayF "parts" (·.parts) (fun r y=>{ r with parts:=y }):=⟨fun r=>rfl,fun r y=>rfl,fun r=>by show 3 < 1000;decide⟩
structure TD (K:PySem.W.Frag) (C:Addr):Prop where
  cl:Cls K C
  n_ticks:NoAttr K C "ticks"
  n_parts:NoAttr K C "parts"
  n_sums:NoAttr K C "sums"
structure DayAt (K:PySem.W.Frag) (C:Addr) (H:Hp) (x:Addr) (ticks:Int) (ps:List Part):Prop where
  ex:∃ dx pt sm rs,H x=some (.ins C dx (dayF ⟨.int ticks,.ref pt,.ref sm⟩))∧PartsT K H pt rs ps∧SqT K H sm (sumsV ticks ps ps.length)
section
variable {P:Program}{w:World}{K:PySem.W.Frag}{mg:Str→Option Value}{base:Heap}
theorem DayAt.same {C x:Addr}{H H':Hp}{ticks:Int}{ps:List Part} (d:DayAt K C H x ticks ps) (s:Same H H'):DayAt K C H' x ticks ps:=by
  obtain ⟨dx,pt,sm,rs,h1,⟨h2,h3⟩,h4⟩:=d.ex
  exact ⟨dx,pt,sm,rs,s _ _ h1,⟨s.tup h2,h3.same s⟩,s.tup h4⟩
theorem DayAt.upd {C x b:Addr}{H:Hp}{ticks:Int}{ps:List Part}{u o:HO} (d:DayAt K C H x ticks ps) (e:H b=some u) (hu:Mut (some u)) (ne:x ≠ b):DayAt K C (L2.upd H b o) x ticks ps:=by
  obtain ⟨dx,pt,sm,rs,h1,⟨h2,h3⟩,h4⟩:=d.ex
  exact ⟨dx,pt,sm,rs,at_ne ne h1,⟨h2.upd e hu,h3.upd e hu⟩,h4.upd e hu⟩
inductive SpDayI (K:PySem.W.Frag) (C CB:Addr) (vs:List V) (H:Hp) (Q:VK) (E:XK):Prop where
  | mk (x dx:Addr) (ticks:Int) (a:Addr) (rs:List Addr) (ps:List Part) (c0:vs = [.ref x,.int ticks,.ref a]) (c1:H x=some (.ins C dx [])) (c2:H a=some (.lst (rs.map V.ref))) (c3:Tups K H rs ps) (c4:Bd ticks) (c5:(∀ q ∈ ps,BdP q)) (c6:ps.length≤100) (c7:(DayM.Ok ticks ps→∀ H',(∀ b o,b ≠ x→H b=some o→H' b=some o)→DayAt K C H' x ticks ps→Q .non H')) (c8:(¬ DayM.Ok ticks ps→E (.ref CB) none H)):SpDayI K C CB vs H Q E
noncomputable def spDayI (K:PySem.W.Frag) (C CB:Addr):Sp:=fun vs H Q E=>SpDayI K C CB vs H Q E
theorem scDay_init:FnScope ["self", "ticks", "parts"] ["self", "ticks", "parts"] (defScope s_Day_init):=⟨rfl,rfl,rfl,by decide +kernel,rfl,by decide +kernel,by decide +kernel⟩
theorem ok_Day_init {f f1 f2 C CB:Addr}{fd fd1 fd2:FuncData} (F:Fun K "__init__" "Day.__init__" s_Day_init f fd) (TDay:TD K C) (Z:ZC mg) (B_check_day:Fn P w K mg base (CXE P w) 3 "check_day" ["ticks", "parts"] (spCD K CB) f1 fd1)
    (B_sums_ahead:Fn P w K mg base CX0 3 "sums_ahead" ["ticks", "parts"] (spSA K) f2 fd2):FnOk P w K mg base (CXE P w) 4 f fd ["self", "ticks", "parts"] (spDayI K C CB):=by
  refine F.okX scDay_init (fun vs H Q E h=>?_) (fun cdv A outer s H vs Q E hr h=>?_)
  · obtain ⟨x,dx,ticks,a,rs,ps,rfl,_⟩:=h
    rfl
  obtain ⟨x,dx,ticks,a,rs,ps,rfl,hx,ha,hT,ht,hb,h100,q,e⟩:=h
  have hS:SqL K H a (rs.map V.ref):=SqL.of ha
  have nax:a ≠ x:=ne_of ha hx (by intro z;cases z)
  refine ⟨_,%[%[%[B_check_day.ok,s!"h",rfl,B_check_day.m,B_check_day.kp,B_check_day.b,.nil,(passes_fn own_cxOf),%[s!"1",%[s!"2",s!"n",s!"g"|0],s!"g"|0],s!"d",s!"g",rfl|1],s!"g"|18],%[%[TDay.cl,TDay.n_ticks,s!"0",s!"1",s!"g"|19],%[%[TDay.cl,TDay.n_parts,s!"0",%[call_tuple_of,rfl,Z.tuple,s!"k",%[s!"2",s!"n",s!"g"|0],s!"d",s!"d",s!"g",rfl|16],s!"g"|19],%[%[TDay.cl,TDay.n_sums,s!"0",%[call_tuple_of,rfl,Z.tuple,s!"k",%[%[B_sums_ahead.ok,s!"h",rfl,B_sums_ahead.m,B_sums_ahead.kp,B_sums_ahead.b,.nil,pass0,%[s!"1",%[s!"2",s!"n",s!"g"|0],s!"g"|0],s!"d",s!"g",rfl|1],s!"n",s!"g"|0],s!"d",s!"d",s!"g",rfl|16],s!"g"|19]|4]|2]|2]|2],?_⟩
  walk_at "rd"
  refine ⟨ticks,a,rs,ps,rfl,⟨hS,hT⟩,ht,hb,fun o=>?_,e⟩
  have q:=q o
  walk_at "rd"
  refine ⟨a,_,rfl,.inl ⟨(by walk_at "sl"),fun t n1=>?_⟩⟩
  have nxt:x ≠ t:=ne_of_none upd_same n1
  have ntx:=nxt.symm
  walk_at "rd"
  refine ⟨ticks,a,rs,ps,rfl,⟨(by walk_at "sl"),?_⟩,o,h100,fun l H4 s4 n4 h4=>?_⟩
  · exact ((hT.upd (o:=.ins C dx [("ticks",.int ticks)]) hx True.intro).same (Same.new n1 _)).upd (at_new n1 upd_same) True.intro
  walk_at "rd"
  refine ⟨l,_,rfl,.inl ⟨(by walk_at "sl"),fun t2 n5=>?_⟩⟩
  walk_at "rd"
  have nx2:x ≠ t2:=ne_of_none (s4 _ _ upd_same) n5
  refine q _ (fun b o hb e=>(by walk_at "hp")) ⟨dx,t,t2,rs,upd_same,⟨?_,?_⟩,?_⟩
  · walk_at "st"
  · refine Tups.upd (u:=.ins C dx [("ticks",.int ticks),("parts",.ref t)]) ?_ (at_new n5 (s4 _ _ upd_same)) True.intro
    exact ((((hT.upd (o:=.ins C dx [("ticks",.int ticks)]) hx True.intro).same (Same.new n1 _)).upd (at_new n1 upd_same) True.intro).same s4).same (Same.new n5 _)
  · have n2x:=nx2.symm
    walk_at "st"
end
end Sp

set_option Elab.async false
set_option linter.all false
set_option maxRecDepth 100000
set_option maxHeartbeats 4000000


namespace Sp
open PySem L2
section
variable {P:Program}{w:World}{K:PySem.W.Frag}{mg:Str→Option Value}{base:Heap}
noncomputable def spDue (K:PySem.W.Frag) (C:Addr):Sp:=fun vs H Q _=>∃ (x:Addr) (t ticks:Int) (ps:List Part),vs = [.ref x,.int t]∧DayAt K C H x ticks ps∧DayM.Ok ticks ps∧0≤t∧∀ H',Same H H'→Q (.int (DayM.due ticks ps t)) H'
theorem scDay_due:FnScope ["self", "tick", "within", "part"] ["self", "tick"] (defScope s_Day_due):=⟨rfl,rfl,rfl,by decide +kernel,rfl,by decide +kernel,by decide +kernel⟩
theorem ok_Day_due {f f1 f2 C:Addr}{fd fd1 fd2:FuncData} (F:Fun K "due" "Day.due" s_Day_due f fd) (TDay:TD K C) (B_place_of_part:Fn P w K mg base CX0 1 "place_of_part" ["parts", "tick"] (spPl K) f1 fd1)
    (B_drops_at:Fn P w K mg base CX0 2 "drops_at" ["rate", "tick"] (spAt K) f2 fd2):FnOk P w K mg base CX0 3 f fd ["self", "tick"] (spDue K C):=by
  refine F.ok scDay_due (fun vs H Q E h=>?_) (fun cdv A outer s H vs Q E hr h=>?_)
  · obtain ⟨x,t,ticks,ps,rfl,_⟩:=h
    rfl
  obtain ⟨x,t,ticks,ps,rfl,⟨dx,pt,sm,rs,hx,⟨hS,hT⟩,hM⟩,o,h0,q⟩:=h
  have hlen:=hT.len
  have t1:=o.t1
  have m0:=Int.emod_nonneg t (show ticks ≠ 0 by omega)
  have pl:=DayM.plc_is o m0
  have hlt:=pl.lt
  obtain ⟨r,er,ar⟩:=atRef (rs:=rs) (i:=DayM.plc ps (t % ticks)) (by omega)
  have hTr:=hT.at_ _ r er
  have hb:=o.b _ hlt
  refine ⟨_,%[%[(2),_,_,_,_,scDay_due.nd,rfl,(Or.inl rfl),%[op_mod,s!"1",%[FDay_ticks,TDay.cl,TDay.n_ticks,s!"0",s!"g"|5]|3],s!"g",s!"f"|12],%[%[(3),_,_,_,_,scDay_due.nd,rfl,(Or.inl rfl),%[ix_tup,%[FDay_parts,TDay.cl,TDay.n_parts,s!"0",s!"g"|5],%[B_place_of_part.ok,s!"h",rfl,B_place_of_part.m,B_place_of_part.kp,B_place_of_part.b,.nil,pass0,%[%[FDay_parts,TDay.cl,TDay.n_parts,s!"0",s!"g"|5],%[s!"2",s!"n",s!"g"|0],s!"g"|0],s!"d",s!"g",rfl|1],(fun _ _=>rfl)|8],s!"g",s!"f"|12],%[%[%[B_drops_at.ok,s!"h",rfl,B_drops_at.m,B_drops_at.kp,B_drops_at.b,.nil,pass0,%[(@pe_tup _ _ _ _ _ %[%[ix_tup,s!"3",s!"i",(fun _ _=>rfl)|8],%[%[ix_tup,s!"3",s!"i",(fun _ _=>rfl)|8],s!"n",s!"g"|0],s!"g"|0]),%[%[op_sub,s!"2",%[ix_tup,s!"3",s!"i",(fun _ _=>rfl)|8]|3],s!"n",s!"g"|0],s!"g"|0],s!"d",s!"g",rfl|1]|11]|4]|2]|2],?_⟩
  walk_at "rd"
  refine ⟨pt,rs,ticks,ps,_,rfl,⟨hS,hT⟩,o,m0,?_⟩
  walk_at "rd"
  intro p1 n1
  walk_at "rd"
  refine ⟨p1,_,_,_,rfl,st_at upd_same,by omega,by omega,?_⟩
  have q:=q _ (Same.new n1 (.tup [.int (ps.getD (DayM.plc ps (t % ticks)) DayM.nil3).2.1,.int (ps.getD (DayM.plc ps (t % ticks)) DayM.nil3).2.2]))
  unfold DayM.due DayM.dw at q
  rw [show t % ticks + 1 - (ps.getD (DayM.plc ps (t % ticks)) DayM.nil3).1=t % ticks - (ps.getD (DayM.plc ps (t % ticks)) DayM.nil3).1 + 1 by omega] at q
  exact q
end
end Sp

set_option Elab.async false
set_option linter.all false
set_option maxRecDepth 100000
set_option maxHeartbeats 4000000


namespace Sp
open PySem L2
section
variable {P:Program}{w:World}{K:PySem.W.Frag}{mg:Str→Option Value}{base:Heap}
/-! ### the law's draws -/
noncomputable def cellv (ns:List Int) (k:Int):Int:=if ns.isEmpty then 0 else ns.getD (k % (ns.length:Int)).toNat 0
noncomputable def mixv (ns:List Int) (k:Int):Int:=
  ((((cellv ns k + 104729 * (k + 1)) % 4294967291) * 48271 % 4294967279) / 64 * 69621 + ((cellv ns k + 104729 * (k + 1)) % 4294967291) * 48271 % 4294967279) % 4294967231
theorem mixv_nn (ns:List Int) (k:Int):0≤mixv ns k∧mixv ns k < 4294967231:=by
  unfold mixv
  exact ⟨Int.emod_nonneg _ s!"d",Int.emod_lt_of_pos _ s!"d"⟩
noncomputable def spCell (K:PySem.W.Frag):Sp:=fun vs H Q _=>∃ (a:Addr) (ns:List Int) (k:Int),vs = [.ref a,.int k]∧SqL K H a (ns.map V.int)∧ns.length≤63∧0≤k∧Q (.int (cellv ns k)) H
noncomputable def spMix (K:PySem.W.Frag):Sp:=fun vs H Q _=>∃ (a:Addr) (ns:List Int) (k:Int),vs = [.ref a,.int k]∧SqL K H a (ns.map V.int)∧ns.length≤63∧0≤k∧Q (.int (mixv ns k)) H
noncomputable def spWhole:Sp:=fun vs H Q _=>∃ i:Int,vs = [.int i]∧Q (.bl true) H
structure ZL (mg:Str→Option Value):Prop where
  len:mg "len"=none
  range:mg "range"=none
  max:mg "max"=none
  isinstance:mg "isinstance"=none
  int:mg "int"=none
  bool:mg "bool"=none
  str:mg "str"=none
  list:mg "list"=none
  tuple:mg "tuple"=none
  sum:mg "sum"=none
  all:mg "all"=none
theorem scLcell:FnScope ["_law_script", "_law_k"] ["_law_script", "_law_k"] (defScope s_Lcell):=⟨rfl,rfl,rfl,by decide +kernel,rfl,by decide +kernel,by decide +kernel⟩
theorem ok_Lcell {f:Addr}{fd:FuncData} (F:Fun K "_law_cell" "_law_cell" s_Lcell f fd) (Z:ZL mg):FnOk P w K mg base CX0 1 f fd ["_law_script", "_law_k"] (spCell K):=by
  refine F.ok scLcell (fun vs H Q E h=>?_) (fun cdv A outer s H vs Q E hr h=>?_)
  · obtain ⟨a,ns,k,rfl,_⟩:=h
    rfl
  obtain ⟨a,ns,k,rfl,hS,h63,k0,q⟩:=h
  refine ⟨_,%[%[(@pt_truth _ _ _ s!"0" (fun _=>rfl)),%[%[%[ix_list,s!"0",%[op_mod,s!"1",%[call_len_seq,rfl,Z.len,s!"k",%[s!"0",s!"n",s!"g"|0],s!"d",s!"d",s!"g",rfl|6]|3],(fun _ _=>rfl)|8]|11]|4],s!"z"|10],%[%[s!"i"|11]|4]|2],?_⟩
  refine ⟨_,rfl,_,.inl ⟨_,hS,rfl⟩,?_⟩
  cases ns with
  | nil=>exact iteF q
  | cons n r =>
    refine iteT ?_
    have hl:((n :: r).map V.int).length=(n :: r).length:=List.length_map _
    have hp:(0:Int) < ((n :: r).length:Nat):=by rw [List.length_cons];omega
    have m0:=Int.emod_nonneg k (Int.ne_of_gt hp)
    have m1:=Int.emod_lt_of_pos k hp
    refine ⟨_,rfl,_,rfl,_,rfl,a,_,rfl,.inl hS,_,_,rfl,rfl,(by show (0:Int) < (((n :: r).map V.int).length:Nat);rw [hl];exact hp),?_⟩
    refine ⟨a,_,_,.int (cellv (n :: r) k),rfl,rfl,hS,?_,q⟩
    rw [hl]
    have e:k % ((n :: r).length:Int)=(((k % ((n :: r).length:Int)).toNat:Nat):Int):=by omega
    rw [e]
    refine atI_nat ?_
    rw [List.getElem?_map]
    have hk:(k % ((n :: r).length:Int)).toNat < (n :: r).length:=by omega
    rw [List.getElem?_eq_getElem hk]
    show some (V.int _)=some (V.int _)
    unfold cellv
    rw [if_neg (by simp),List.getD_eq_getElem?_getD,List.getElem?_eq_getElem hk]
    rfl
theorem scLmix:FnScope ["_law_script", "_law_k", "_law_number"] ["_law_script", "_law_k"] (defScope s_Lmix):=⟨rfl,rfl,rfl,by decide +kernel,rfl,by decide +kernel,by decide +kernel⟩
theorem ok_Lmix {f fc:Addr}{fd fdc:FuncData} (F:Fun K "_law_mix" "_law_mix" s_Lmix f fd) (B_Lcell:Fn P w K mg base CX0 1 "_law_cell" ["_law_script", "_law_k"] (spCell K) fc fdc):FnOk P w K mg base CX0 2 f fd ["_law_script", "_law_k"] (spMix K):=by
  refine F.ok scLmix (fun vs H Q E h=>?_) (fun cdv A outer s H vs Q E hr h=>?_)
  · obtain ⟨a,ns,k,rfl,_⟩:=h
    rfl
  obtain ⟨a,ns,k,rfl,hS,h63,k0,q⟩:=h
  refine ⟨_,%[%[(2),_,_,_,_,scLmix.nd,rfl,(Or.inl rfl),%[op_mod,%[op_add,%[B_Lcell.ok,s!"h",rfl,B_Lcell.m,B_Lcell.kp,B_Lcell.b,.nil,pass0,%[s!"0",%[s!"1",s!"n",s!"g"|0],s!"g"|0],s!"d",s!"g",rfl|1],%[op_mul,s!"i",%[op_add,s!"1",s!"i"|3]|3]|3],s!"i"|3],s!"g",s!"f"|12],%[%[(2),_,_,_,_,scLmix.nd,rfl,(Or.inl rfl),%[op_mod,%[op_mul,s!"2",s!"i"|3],s!"i"|3],s!"g",s!"f"|12],%[%[%[op_mod,%[op_add,%[op_mul,%[op_fdiv,s!"2",s!"i"|3],s!"i"|3],s!"2"|3],s!"i"|3]|11]|4]|2]|2],?_⟩
  walk_at "rd"
  exact q
theorem scLwhole:FnScope ["_law_found"] ["_law_found"] (defScope s_Lwhole):=⟨rfl,rfl,rfl,by decide +kernel,rfl,by decide +kernel,by decide +kernel⟩
theorem ok_Lwhole {f:Addr}{fd:FuncData} (F:Fun K "_law_whole" "_law_whole" s_Lwhole f fd) (Z:ZL mg) (kb:PySem.W.kitOne K (.type "int") (.type "bool")=some false):FnOk P w K mg base CX0 1 f fd ["_law_found"] spWhole:=by
  refine F.ok scLwhole (fun vs H Q E h=>?_) (fun cdv A outer s H vs Q E hr h=>?_)
  · obtain ⟨i,rfl,_⟩:=h
    rfl
  obtain ⟨i,rfl,q⟩:=h
  refine ⟨_,%[%[(@pe_and _ _ _ _ _ _ _ %[call_isT,rfl,Z.isinstance,s!"k",%[s!"0",%[(@pe_bltn _ _ (.ty "int") _ _ rfl Z.int s!"k" rfl s!"d" s!"d"),s!"n",s!"g"|0],s!"g"|0],s!"d",s!"d",s!"g",rfl|6] (@pe_one _ _ _ _ _ (@pe_not _ _ _ _ %[call_isT,rfl,Z.isinstance,s!"k",%[s!"0",%[(@pe_bltn _ _ (.ty "bool") _ _ rfl Z.bool s!"k" rfl s!"d" s!"d"),s!"n",s!"g"|0],s!"g"|0],s!"d",s!"d",s!"g",rfl|6])))|11]|4],?_⟩
  refine ⟨_,rfl,.int i, "int",_,true,rfl,.int i,(by unfold PySem.W.kitOne;rw [if_pos s!"d"]),true,rfl,?_⟩
  refine iteT ?_
  exact ⟨_,rfl,.int i, "bool",_,false,rfl,.int i,kb,false,rfl,q⟩
end
end Sp

set_option Elab.async false
set_option linter.all false
set_option maxRecDepth 100000
set_option maxHeartbeats 4000000


namespace Sp
open PySem L2
section
variable {P:Program}{w:World}{K:PySem.W.Frag}{mg:Str→Option Value}{base:Heap}
/-! ### rules -/
noncomputable abbrev Rule:=Int × Int
noncomputable def r2 (q:Rule):List V:=[.int q.1,.int q.2]
structure RT (K:PySem.W.Frag) (H:Hp) (rs:List Addr) (ps:List Rule):Prop where
  len:rs.length=ps.length
  at_:∀ i r,rs[i]?=some r→SqT K H r (r2 (ps.getD i (0,0)))
theorem RT.same {H H':Hp}{rs:List Addr}{ps:List Rule} (t:RT K H rs ps) (s:Same H H'):RT K H' rs ps:=⟨t.len,fun i r e=>s.tup (t.at_ i r e)⟩
theorem RT.upd {H:Hp}{rs:List Addr}{ps:List Rule}{b:Addr}{u o:HO} (t:RT K H rs ps) (e:H b=some u) (hu:Mut (some u)):RT K (L2.upd H b o) rs ps:=⟨t.len,fun i r z=>(t.at_ i r z).upd e hu⟩
noncomputable def RGood1 (r:Rule):Prop:=(1≤r.1∧r.1≤1000)∧(0≤r.2∧r.2≤1000000)
structure RGood (rules:List Rule):Prop where
  ln:1≤rules.length∧rules.length≤4
  al:∀ i,i < rules.length→RGood1 (rules.getD i (0,0))
structure ZR (K:PySem.W.Frag) (mg:Str→Option Value):Prop where
  MOST_RULES:∃ t,mg "MOST_RULES"=some (.int 4 t)
  LONGEST_WINDOW:∃ t,mg "LONGEST_WINDOW"=some (.int 1000 t)
  MOST_DROPS_limits:∃ t,mg "MOST_DROPS_limits"=some (.int 1000000 t)
  MOST:∃ t,mg "MOST"=some (.int 1000000 t)
  len:mg "len"=none
  list:mg "list"=none
  max:mg "max"=none
  min:mg "min"=none
  sum:mg "sum"=none
theorem getDr {ps:List Rule}{i:Nat} (h:i < ps.length):ps.getD i (0,0) ∈ ps∧ps[i]?=some (ps.getD i (0,0)):=by
  rw [List.getD_eq_getElem?_getD,List.getElem?_eq_getElem h]
  exact ⟨List.getElem_mem h,rfl⟩
noncomputable def spCR (K:PySem.W.Frag) (CB:Addr):Sp:=fun vs H Q E=>∃ (a:Addr) (rs:List Addr) (rules:List Rule),vs = [.ref a]∧SqL K H a (rs.map V.ref)∧RT K H rs rules∧(∀ r ∈ rules,Bd r.1∧Bd r.2)∧rules.length≤100 ∧
  (RGood rules→∀ l H',Same H H'→H l=none→H' l=some (.lst (rs.map V.ref))→Q (.ref l) H')∧(¬ RGood rules→E (.ref CB) none H)
theorem scchecked_rules:FnScope ["rules", "rule"] ["rules"] (defScope s_checked_rules):=⟨rfl,rfl,rfl,by decide +kernel,rfl,by decide +kernel,by decide +kernel⟩
theorem ok_checked_rules {f f1 CB:Addr}{fd fd1:FuncData} (F:Fun K "checked_rules" "checked_rules" s_checked_rules f fd) (Z:ZR K mg) (B_check_between:Fn P w K mg base (CXE P w) 1 "check_between" ["what", "number", "least", "most"] (spCB CB) f1 fd1):FnOk P w K mg base (CXE P w) 2 f fd ["rules"] (spCR K CB):=by
  refine F.okX scchecked_rules (fun vs H Q E h=>?_) (fun cdv A outer s H vs Q E hr h=>?_)
  · obtain ⟨a,rs,rules,rfl,_⟩:=h
    rfl
  obtain ⟨a,rs,rules,rfl,hS,hT,hb,h100,q,e⟩:=h
  have hlen:=hT.len
  have hml:(rs.map V.ref).length=rules.length:=by rw [List.length_map];exact hlen
  refine ⟨_,%[%[%[B_check_between.ok,s!"h",rfl,B_check_between.m,B_check_between.kp,B_check_between.b,.nil,(passes_fn own_cxOf),%[s!"s",%[%[call_len_seq,rfl,Z.len,s!"k",%[s!"0",s!"n",s!"g"|0],s!"d",s!"d",s!"g",rfl|6],%[s!"i",%[(@pe_globI _ _ (4) _ rfl Z.MOST_RULES s!"d"),s!"n",s!"g"|0],s!"g"|0],s!"g"|0],s!"g"|0],s!"d",s!"g",rfl|1],s!"g"|18],%[(@ps_for _ _ _ _ _ _ _ _ (passesOwn_fn own_cxOf) rfl (@pi_list _ _ _ _ s!"0") (@pg_name _ _ (1) _ scchecked_rules.nd rfl (Or.inl rfl) s!"f") %[%[%[B_check_between.ok,s!"h",rfl,B_check_between.m,B_check_between.kp,B_check_between.b,.nil,(passes_fn own_cxOf),%[s!"s",%[%[ix_tup,s!"1",s!"i",(fun _ _=>rfl)|8],%[s!"i",%[(@pe_globI _ _ (1000) _ rfl Z.LONGEST_WINDOW s!"d"),s!"n",s!"g"|0],s!"g"|0],s!"g"|0],s!"g"|0],s!"d",s!"g",rfl|1],s!"g"|18],%[%[%[B_check_between.ok,s!"h",rfl,B_check_between.m,B_check_between.kp,B_check_between.b,.nil,(passes_fn own_cxOf),%[s!"s",%[%[ix_tup,s!"1",s!"i",(fun _ _=>rfl)|8],%[s!"i",%[(@pe_globI _ _ (1000000) _ rfl Z.MOST_DROPS_limits s!"d"),s!"n",s!"g"|0],s!"g"|0],s!"g"|0],s!"g"|0],s!"d",s!"g",rfl|1],s!"g"|18]|4]|2] s!"g"),%[%[%[call_list_of,rfl,Z.list,s!"k",%[s!"0",s!"n",s!"g"|0],s!"d",s!"d",s!"g",rfl|16]|11]|4]|2]|2],?_⟩
  dsimp only [cxOf,Cx.nox]
  walk_at "rd"
  walk_at "cb"
  · walk_at "rd"
    refine for_list (xs:=rs.map V.ref) (fun i σ H2=>H2=H∧∃ v1,σ = [some (.ref a),v1]∧∀ j,j < i→RGood1 (rules.getD j (0,0))) ?_ ?_ ?_ ?_
    · exact ⟨rfl,none,rfl,fun j hj=>absurd hj (Nat.not_lt_zero j)⟩
    · rintro i σ H2 _ ⟨rfl,_⟩
      exact hS
    · rintro i x σ H2 hx ⟨rfl,v1,rfl,hall⟩
      obtain ⟨r,rfl,er,hi⟩:=getRef hx
      have hTr:=hT.at_ i r er
      obtain ⟨b1,b2⟩:=hb _ (getDr (ps:=rules) (i:=i) (by omega)).1
      unfold Bd at b1 b2
      walk_at "rd"
      walk_at "cb"
      · walk_at "rd"
        walk_at "cb"
        · walk_at "rd"
          intro j hj
          rcases Nat.lt_succ_iff_lt_or_eq.mp hj with z | z
          · exact hall j z
          · rw [z];exact ⟨by omega,by omega⟩
        · rename_i hn
          exact e fun g=>hn (g.al i (by omega)).2
      · rename_i hn
        exact e fun g=>hn (g.al i (by omega)).1
    · rintro σ H2 ⟨rfl,v1,rfl,hall⟩
      rw [List.length_map] at hall
      walk_at "rd"
      intro l n1
      exact q ⟨by omega,fun i hi=>hall i (by omega)⟩ l _ (Same.new n1 _) n1 upd_same
  · exact e fun g=>by have:=g.ln;omega
noncomputable def spLW (K:PySem.W.Frag):Sp:=fun vs H Q _=>∃ (a:Addr) (rs:List Addr) (rules:List Rule),vs = [.ref a]∧SqL K H a (rs.map V.ref)∧RT K H rs rules∧0 < rules.length∧rules.length≤100∧∀ H',Same H H'→Q (.int (Sd.longest rules)) H'
theorem sclongest_window:FnScope ["rules"] ["rules"] (defScope s_longest_window):=⟨rfl,rfl,rfl,by decide +kernel,rfl,by decide +kernel,by decide +kernel⟩
theorem ok_longest_window {f:Addr}{fd:FuncData} (F:Fun K "longest_window" "longest_window" s_longest_window f fd) (Z:ZR K mg):FnOk P w K mg base CX0 1 f fd ["rules"] (spLW K):=by
  refine F.ok sclongest_window (fun vs H Q E h=>?_) (fun cdv A outer s H vs Q E hr h=>?_)
  · obtain ⟨a,rs,rules,rfl,_⟩:=h
    rfl
  obtain ⟨a,rs,rules,rfl,hS,hT,h0,h100,q⟩:=h
  have hlen:=hT.len
  refine ⟨_,%[%[%[(call_maxL rfl),rfl,Z.max,s!"k",%[%[(defScope s_longest_window),_,(["rules"]),(["rules", "rule"]),(["rule"]),_,_,_,_,_,rfl,rfl,rfl,(.of s!"k"),(@pi_list _ _ _ _ s!"0"),takes_name,(fun _ _ _ _ _=>@pg_name _ _ (1) _ (show List.Nodup (["rules", "rule"]:List Str) by decide +kernel) rfl (Or.inl rfl) s!"f"),(fun _ _ _ _ _=>@pif_nil _),(fun _ _ _ _ _=>%[(ix_tupK (K:=K) rfl),s!"1",s!"i",(fun _ _=>rfl)|8]),s!"g"|22],s!"n",s!"g"|0],s!"d",s!"d",s!"g",rfl|6]|11]|4],?_⟩
  walk_at "rd"
  intro acc n1
  refine comp_list (xs:=rs.map V.ref) (fun i ys H2=>ys=((rules.take i).map (·.1)).map V.int∧Same H H2∧H2 acc=some (.lst ys)) ?_ ?_ ?_ ?_
  · exact ⟨rfl,Same.new n1 _,upd_same⟩
  · rintro i ys H2 _ ⟨_,s2,_⟩
    exact s2.seq hS
  · rintro i x ys H2 hi hx ⟨rfl,s2,hacc⟩
    obtain ⟨r,rfl,er,hlt⟩:=getRef hx
    have hTr:=hT.at_ i r er
    walk_at "rd"
    refine ⟨small1000 (by rw [List.length_map,List.length_map,List.length_take];omega),cstep hi ⟨?_,s2.mut n1,upd_same⟩⟩
    rw [List.take_succ,List.map_append,List.map_append,(getDr (ps:=rules) (i:=i) (by omega)).2]
    rfl
  · rintro ys H2 ⟨rfl,s2,hacc⟩
    rw [List.take_of_length_le (by rw [List.length_map];omega)] at hacc
    refine ⟨acc,rules.map (·.1),rfl,SqL.of hacc,by rw [List.length_map];exact h0,fun M hM hMx=>?_⟩
    walk_at "rd"
    rw [Sd.maxL_uniq hM hMx]
    exact q H2 s2
noncomputable def spSL (K:PySem.W.Frag):Sp:=fun vs H Q _=>∃ (a:Addr) (xs:List Int) (m:Int),vs = [.ref a,.int m]∧SqL K H a (xs.map V.int)∧∀ H',Same H H'→Q (.int (Sd.sumL xs m)) H'
theorem scsum_of_last:FnScope ["numbers", "many", "first"] ["numbers", "many"] (defScope s_sum_of_last):=⟨rfl,rfl,rfl,by decide +kernel,rfl,by decide +kernel,by decide +kernel⟩
theorem ok_sum_of_last {f:Addr}{fd:FuncData} (F:Fun K "sum_of_last" "sum_of_last" s_sum_of_last f fd) (Z:ZR K mg):FnOk P w K mg base CX0 1 f fd ["numbers", "many"] (spSL K):=by
  refine F.ok scsum_of_last (fun vs H Q E h=>?_) (fun cdv A outer s H vs Q E hr h=>?_)
  · obtain ⟨a,xs,m,rfl,_⟩:=h
    rfl
  obtain ⟨a,xs,m,rfl,hS,q⟩:=h
  refine ⟨_,%[%[(2),_,_,_,_,scsum_of_last.nd,rfl,(Or.inl rfl),%[(call_max2m rfl),rfl,Z.max,s!"k",%[s!"i",%[%[op_sub,%[call_len_seq,rfl,Z.len,s!"k",%[s!"0",s!"n",s!"g"|0],s!"d",s!"d",s!"g",rfl|6],s!"1"|3],s!"n",s!"g"|0],s!"g"|0],s!"d",s!"d",s!"g",rfl|6],s!"g",s!"f"|12],%[%[%[(call_sumL rfl),rfl,Z.sum,s!"k",%[(@pe_slice _ _ _ _ _ _ _ _ _ _ sl_list s!"0" (@po_some _ _ _ s!"2") (@po_none _)),s!"n",s!"g"|0],s!"d",s!"d",s!"g",rfl|6]|11]|4]|2],?_⟩
  walk_at "rd"
  intro p1 n1
  have e1:cutV (xs.map V.int) (some (max 0 (((xs.map V.int).length:Int) - m))) none=(xs.drop (max 0 ((xs.length:Int) - m)).toNat).map V.int:=by
    rw [List.length_map]
    have e:(max 0 ((xs.length:Int) - m))=(((max 0 ((xs.length:Int) - m)).toNat:Nat):Int):=by omega
    rw [e,cut_from,List.map_drop,← e]
  rw [e1]
  refine ⟨p1,_,rfl,SqL.of upd_same,?_⟩
  walk_at "rd"
  exact q _ (Same.new n1 _)
noncomputable def spRL (K:PySem.W.Frag):Sp:=fun vs H Q _=>∃ (a b:Addr) (rs:List Addr) (rules:List Rule) (xs:List Int),vs = [.ref a,.ref b]∧SqL K H a (rs.map V.ref)∧RT K H rs rules∧0 < rules.length∧rules.length≤100∧SqL K H b (xs.map V.int)∧∀ H',Same H H'→Q (.int (Sd.room rules xs)) H'
theorem scroom_left:FnScope ["rules", "sent", "left"] ["rules", "sent"] (defScope s_room_left):=⟨rfl,rfl,rfl,by decide +kernel,rfl,by decide +kernel,by decide +kernel⟩
theorem ok_room_left {f f1:Addr}{fd fd1:FuncData} (F:Fun K "room_left" "room_left" s_room_left f fd) (Z:ZR K mg) (B_sum_of_last:Fn P w K mg base CX0 1 "sum_of_last" ["numbers", "many"] (spSL K) f1 fd1):FnOk P w K mg base CX0 2 f fd ["rules", "sent"] (spRL K):=by
  refine F.ok scroom_left (fun vs H Q E h=>?_) (fun cdv A outer s H vs Q E hr h=>?_)
  · obtain ⟨a,b,rs,rules,xs,rfl,_⟩:=h
    rfl
  obtain ⟨a,b,rs,rules,xs,rfl,hS,hT,h0,h100,hB,q⟩:=h
  have hlen:=hT.len
  refine ⟨_,%[(@ps_comp _ (2) _ _ _ _ _ _ _ _ (defScope s_room_left) _ (["rules", "sent", "left"]) (["rules", "sent", "left", "rule"]) (["rule"]) _ _ _ _ _ rfl rfl rfl (.of s!"k") (@pi_list _ _ _ _ s!"0") takes_name (fun _ _ _ _ _=>@pg_name _ _ (3) _ (show List.Nodup (["rules", "sent", "left", "rule"]:List Str) by decide +kernel) rfl (Or.inl rfl) s!"f") (fun _ _ _ _ _=>@pif_nil _) (fun _ _ _ _ _=>%[op_sub,%[(ix_tupK (K:=K) rfl),s!"3",s!"i",(fun _ _=>rfl)|8],%[B_sum_of_last.ok,s!"h",rfl,B_sum_of_last.m,B_sum_of_last.kp,B_sum_of_last.b,.nil,pass0,%[s!"1",%[%[op_sub,%[(ix_tupK (K:=K) rfl),s!"3",s!"i",(fun _ _=>rfl)|8],s!"i"|3],s!"n",s!"g"|0],s!"g"|0],s!"d",s!"g",rfl|1]|3]) scroom_left.nd rfl rfl s!"g" s!"g"),%[%[%[(call_max2m rfl),rfl,Z.max,s!"k",%[s!"i",%[%[(call_minL rfl),rfl,Z.min,s!"k",%[s!"2",s!"n",s!"g"|0],s!"d",s!"d",s!"g",rfl|6],s!"n",s!"g"|0],s!"g"|0],s!"d",s!"d",s!"g",rfl|6]|11]|4]|2],?_⟩
  walk_at "rd"
  intro acc n1
  refine comp_list (xs:=rs.map V.ref) (fun i ys H2=>ys=(Sd.lefts (rules.take i) xs).map V.int∧Same H H2∧H2 acc=some (.lst ys)) ?_ ?_ ?_ ?_
  · exact ⟨rfl,Same.new n1 _,upd_same⟩
  · rintro i ys H2 _ ⟨_,s2,_⟩
    exact s2.seq hS
  · rintro i x ys H2 hi hx ⟨rfl,s2,hacc⟩
    obtain ⟨r,rfl,er,hlt⟩:=getRef hx
    have hTr:=hT.at_ i r er
    have hB2:=s2.seq hB
    walk_at "rd"
    rename_i H3 s3
    refine ⟨s3 _ _ hacc,small1000 (by unfold Sd.lefts;rw [List.length_map,List.length_map,List.length_take];omega),cstep hi ⟨?_,(s2.trans s3).mut n1,upd_same⟩⟩
    unfold Sd.lefts
    rw [List.take_succ,List.map_append,List.map_append,(getDr (ps:=rules) (i:=i) (by omega)).2]
    rfl
  · rintro ys H2 ⟨rfl,s2,hacc⟩
    rw [List.take_of_length_le (by rw [List.length_map];omega)] at hacc
    walk_at "rd"
    refine ⟨acc,Sd.lefts rules xs,rfl,SqL.of hacc,by unfold Sd.lefts;rw [List.length_map];exact h0,fun M hM hMx=>?_⟩
    walk_at "rd"
    rw [Sd.minL_uniq hM hMx]
    exact q H2 s2
end
end Sp

set_option Elab.async false
set_option linter.all false
set_option maxRecDepth 100000
set_option maxHeartbeats 4000000


namespace Sp
open PySem L2
structure PF where
  day:V
  rules:V
  lock:V
  dose:V
  hold:V
  now:V
  running:V
  content:V
  waiting:V
  asked:V
  missed:V
  total:V
  free:V
  sent:V
noncomputable def pumpF (r:PF):List (Str × V):=[("day",r.day),("rules",r.rules),("lock",r.lock),("dose",r.dose),("hold",r.hold),("now",r.now),("running",r.running),("content",r.content),("waiting",r.waiting),("asked",r.asked),("missed",r.missed),("total",r.total),("free",r.free),("sent",r.sent)]
theorem FPump_day:Fld pumpF "day" (·.day) (fun r y=>{ r with day:=y }):=⟨fun r=>rfl,fun r y=>rfl,fun r=>by show 14 < 1000;decide⟩
theorem FPump_rules:Fld pumpF "rules" (·.rules) (fun r y=>{ r with rules:=y }):=⟨fun r=>rfl,fun r y=>rfl,fun r=>by show 14 < 1000;decide⟩
theorem FPump_lock:Fld pumpF "lock" (·.lock) (fun r y=>{ r with lock:=y }):=⟨fun r=>rfl,fun r y=>rfl,fun r=>by show 14 < 1000;decide⟩
theorem FPump_dose:Fld pumpF "dose" (·.dose) (fun r y=>{ r with dose:=y }):=⟨fun r=>rfl,fun r y=>rfl,fun r=>by show 14 < 1000;decide⟩
theorem FPump_hold:Fld pumpF "hold" (·.hold) (fun r y=>{ r with hold:=y }):=⟨fun r=>rfl,fun r y=>rfl,fun r=>by show 14 < 1000;decide⟩
theorem FPump_now:Fld pumpF "now" (·.now) (fun r y=>{ r with now:=y }):=⟨fun r=>rfl,fun r y=>rfl,fun r=>by show 14 < 1000;decide⟩
theorem FPump_running:Fld pumpF "running" (·.running) (fun r y=>{ r with running:=y }):=⟨fun r=>rfl,fun r y=>rfl,fun r=>by show 14 < 1000;decide⟩
theorem FPump_content:Fld pumpF "content" (·.content) (fun r y=>{ r with content:=y }):=⟨fun r=>rfl,fun r y=>rfl,fun r=>by show 14 < 1000;decide⟩
theorem FPump_waiting:Fld pumpF "waiting" (·.waiting) (fun r y=>{ r with waiting:=y }):=⟨fun r=>rfl,fun r y=>rfl,fun r=>by show 14 < 1000;decide⟩
theorem FPump_asked:Fld pumpF "asked" (·.asked) (fun r y=>{ r with asked:=y }):=⟨fun r=>rfl,fun r y=>rfl,fun r=>by show 14 < 1000;decide⟩
theorem FPump_missed:Fld pumpF "missed" (·.missed) (fun r y=>{ r with missed:=y }):=⟨fun r=>rfl,fun r y=>rfl,fun r=>by show 14 < 1000;decide⟩
theorem FPump_total:Fld pumpF "total" (·.total) (fun r y=>{ r with total:=y }):=⟨fun r=>rfl,fun r y=>rfl,fun r=>by show 14 < 1000;decide⟩
theorem FPump_free:Fld pumpF "free" (·.free) (fun r y=>{ r with free:=y }):=⟨fun r=>rfl,fun r y=>rfl,fun r=>by show 14 < 1000;decide⟩
theorem FPump_sent:Fld pumpF "sent" (·.sent) (fun r y=>{ r with sent:=y }):=⟨fun r=>rfl,fun r y=>rfl,fun r=>by show 14 < 1000;decide⟩
structure TP (K:PySem.W.Frag) (C:Addr):Prop where
  cl:Cls K C
  n_day:NoAttr K C "day"
  n_rules:NoAttr K C "rules"
  n_lock:NoAttr K C "lock"
  n_dose:NoAttr K C "dose"
  n_hold:NoAttr K C "hold"
  n_now:NoAttr K C "now"
  n_running:NoAttr K C "running"
  n_content:NoAttr K C "content"
  n_waiting:NoAttr K C "waiting"
  n_asked:NoAttr K C "asked"
  n_missed:NoAttr K C "missed"
  n_total:NoAttr K C "total"
  n_free:NoAttr K C "free"
  n_sent:NoAttr K C "sent"
structure Cf where
  ticks:Int
  ps:List Part
  rules:List Rule
  lock:Int
  dose:Int
  hold:Int
noncomputable def Cf.c (g:Cf):Sd.C:={ due:=DayM.due g.ticks g.ps,rules:=g.rules,lock:=g.lock,dose:=g.dose,hold:=g.hold }
structure Cf.Ok (g:Cf):Prop where
  d:DayM.Ok g.ticks g.ps
  r:RGood g.rules
  lk:0≤g.lock∧g.lock≤1000000
  ds:0≤g.dose∧g.dose≤1000000
  hd:0≤g.hold∧g.hold≤1000000
noncomputable def pf (g:Cf) (s:Sd.S) (dy rl sn:Addr):PF:=⟨.ref dy,.ref rl,.int g.lock,.int g.dose,.int g.hold,.int s.now,.bl s.run,.int s.con,.int s.wai,.int s.ask,.int s.mis,.int s.tot,.int s.fre,.ref sn⟩
structure PumpAt (K:PySem.W.Frag) (CP CD:Addr) (H:Hp) (p dx dy rl sn:Addr) (rs:List Addr) (g:Cf) (s:Sd.S):Prop where
  ob:H p=some (.ins CP dx (pumpF (pf g s dy rl sn)))
  day:DayAt K CD H dy g.ticks g.ps
  rls:H rl=some (.lst (rs.map V.ref))
  rt:RT K H rs g.rules
  se:H sn=some (.lst (s.sent.map V.int))
  npd:p ≠ dy
  nrs:rl ≠ sn
noncomputable def But (p q:Addr) (H H':Hp):Prop:=∀ b o,b ≠ p→b ≠ q→H b=some o→H' b=some o
section
variable {P:Program}{w:World}{K:PySem.W.Frag}{mg:Str→Option Value}{base:Heap}{CP CD CB:Addr}
theorem PumpAt.same {H H':Hp}{p dx dy rl sn:Addr}{rs:List Addr}{g:Cf}{s:Sd.S} (a:PumpAt K CP CD H p dx dy rl sn rs g s) (e:Same H H'):PumpAt K CP CD H' p dx dy rl sn rs g s:=
  ⟨e _ _ a.ob,a.day.same e,e _ _ a.rls,a.rt.same e,e _ _ a.se,a.npd,a.nrs⟩
theorem PumpAt.npr {H:Hp}{p dx dy rl sn:Addr}{rs:List Addr}{g:Cf}{s:Sd.S} (a:PumpAt K CP CD H p dx dy rl sn rs g s):p ≠ rl∧p ≠ sn∧dy ≠ rl∧dy ≠ sn:=by
  obtain ⟨dx',pt,sm,rs',h1,_,_⟩:=a.day.ex
  exact ⟨ne_of a.ob a.rls (by intro z;cases z),ne_of a.ob a.se (by intro z;cases z),ne_of h1 a.rls (by intro z;cases z),ne_of h1 a.se (by intro z;cases z)⟩
theorem PumpAt.put {H:Hp}{p dx dy rl sn:Addr}{rs:List Addr}{g:Cf}{s s':Sd.S} (a:PumpAt K CP CD H p dx dy rl sn rs g s) (hs:s'.sent=s.sent):PumpAt K CP CD (upd H p (.ins CP dx (pumpF (pf g s' dy rl sn)))) p dx dy rl sn rs g s':=by
  obtain ⟨n1,n2,n3,n4⟩:=a.npr
  exact ⟨upd_same,a.day.upd a.ob True.intro (Ne.symm a.npd),at_ne (Ne.symm n1) a.rls,a.rt.upd a.ob True.intro,at_ne (Ne.symm n2) (by rw [hs];exact a.se),a.npd,a.nrs⟩
theorem PumpAt.putS {H:Hp}{p dx dy rl sn:Addr}{rs:List Addr}{g:Cf}{s:Sd.S}{xs:List Int} (a:PumpAt K CP CD H p dx dy rl sn rs g s):PumpAt K CP CD (upd H sn (.lst (xs.map V.int))) p dx dy rl sn rs g { s with sent:=xs }:=by
  obtain ⟨n1,n2,n3,n4⟩:=a.npr
  exact ⟨at_ne n2 a.ob,a.day.upd a.se True.intro n4,at_ne a.nrs a.rls,a.rt.upd a.se True.intro,upd_same,a.npd,a.nrs⟩
theorem But.refl {p q:Addr}{H:Hp}:But p q H H:=fun _ _ _ _ e=>e
theorem But.trans {p q:Addr}{H H1 H2:Hp} (a:But p q H H1) (b:But p q H1 H2):But p q H H2:=fun c o h1 h2 e=>b c o h1 h2 (a c o h1 h2 e)
theorem But.same {p q:Addr}{H H1:Hp} (a:Same H H1):But p q H H1:=fun c o _ _ e=>a c o e
theorem But.put {p q:Addr}{H:Hp}{o:HO}:But p q H (upd H p o):=fun c u h1 _ e=>at_ne h1 e
theorem But.putS {p q:Addr}{H:Hp}{o:HO}:But p q H (upd H q o):=fun c u _ h2 e=>at_ne h2 e
/-! ### at first -/
noncomputable def s0:Sd.S:={ now:=0,run:=false,con:=0,wai:=0,ask:=0,mis:=0,tot:=0,fre:=0,sent:=[] }
inductive SpPumpI (K:PySem.W.Frag) (CP CD CB:Addr) (vs:List V) (H:Hp) (Q:VK) (E:XK):Prop where
  | mk (x dx dy a:Addr) (rs:List Addr) (g:Cf) (c0:vs = [.ref x,.ref dy,.ref a,.int g.lock,.int g.dose,.int g.hold]) (c1:H x=some (.ins CP dx [])) (c2:DayAt K CD H dy g.ticks g.ps) (c3:x ≠ dy) (c4:H a=some (.lst (rs.map V.ref))) (c5:RT K H rs g.rules) (c6:(∀ r ∈ g.rules,Bd r.1∧Bd r.2)) (c7:g.rules.length≤100) (c8:DayM.Ok g.ticks g.ps) (c9:Bd g.lock) (c10:Bd g.dose) (c11:Bd g.hold) (c12:(g.Ok→∀ rl sn H',(∀ b o,b ≠ x→H b=some o→H' b=some o)→H rl=none→H sn=none→PumpAt K CP CD H' x dx dy rl sn rs g s0→Q .non H')) (c13:(¬ g.Ok→∀ H',(∀ b o,b ≠ x→H b=some o→H' b=some o)→E (.ref CB) none H')):SpPumpI K CP CD CB vs H Q E
noncomputable def spPumpI (K:PySem.W.Frag) (CP CD CB:Addr):Sp:=fun vs H Q E=>SpPumpI K CP CD CB vs H Q E
theorem scPump_init:FnScope ["self", "day", "rules", "lock", "dose", "hold"] ["self", "day", "rules", "lock", "dose", "hold"] (defScope s_Pump_init):=⟨rfl,rfl,rfl,by decide +kernel,rfl,by decide +kernel,by decide +kernel⟩
theorem ok_Pump_init {f f1 f2:Addr}{fd fd1 fd2:FuncData} (F:Fun K "__init__" "Pump.__init__" s_Pump_init f fd) (TPump:TP K CP) (Z:ZR K mg) (B_check_between:Fn P w K mg base (CXE P w) 1 "check_between" ["what", "number", "least", "most"] (spCB CB) f1 fd1)
    (B_checked_rules:Fn P w K mg base (CXE P w) 2 "checked_rules" ["rules"] (spCR K CB) f2 fd2):FnOk P w K mg base (CXE P w) 3 f fd ["self", "day", "rules", "lock", "dose", "hold"] (spPumpI K CP CD CB):=by
  refine F.okX scPump_init (fun vs H Q E h=>?_) (fun cdv A outer s H vs Q E hr h=>?_)
  · obtain ⟨x,dx,dy,a,rs,g,rfl,_⟩:=h
    rfl
  obtain ⟨x,dx,dy,a,rs,g,rfl,hx,D,nxd,ha,hT,hb,h100,od,b1,b2,b3,q,e⟩:=h
  have nax:a ≠ x:=ne_of ha hx (by intro z;cases z)
  unfold Bd at b1 b2 b3
  have eH:=fun no=>e no H fun b o _ z=>z
  refine ⟨_,%[%[%[B_check_between.ok,s!"h",rfl,B_check_between.m,B_check_between.kp,B_check_between.b,.nil,(passes_fn own_cxOf),%[s!"s",%[s!"3",%[s!"i",%[(@pe_globI _ _ (1000000) _ rfl Z.MOST s!"d"),s!"n",s!"g"|0],s!"g"|0],s!"g"|0],s!"g"|0],s!"d",s!"g",rfl|1],s!"g"|18],%[%[%[B_check_between.ok,s!"h",rfl,B_check_between.m,B_check_between.kp,B_check_between.b,.nil,(passes_fn own_cxOf),%[s!"s",%[s!"4",%[s!"i",%[(@pe_globI _ _ (1000000) _ rfl Z.MOST s!"d"),s!"n",s!"g"|0],s!"g"|0],s!"g"|0],s!"g"|0],s!"d",s!"g",rfl|1],s!"g"|18],%[%[%[B_check_between.ok,s!"h",rfl,B_check_between.m,B_check_between.kp,B_check_between.b,.nil,(passes_fn own_cxOf),%[s!"s",%[s!"5",%[s!"i",%[(@pe_globI _ _ (1000000) _ rfl Z.MOST s!"d"),s!"n",s!"g"|0],s!"g"|0],s!"g"|0],s!"g"|0],s!"d",s!"g",rfl|1],s!"g"|18],%[%[TPump.cl,TPump.n_day,s!"0",s!"1",s!"g"|19],%[%[TPump.cl,TPump.n_rules,s!"0",%[B_checked_rules.ok,s!"h",rfl,B_checked_rules.m,B_checked_rules.kp,B_checked_rules.b,.nil,(passes_fn own_cxOf),%[s!"2",s!"n",s!"g"|0],s!"d",s!"g",rfl|1],s!"g"|19],%[%[TPump.cl,TPump.n_lock,s!"0",s!"3",s!"g"|19],%[%[TPump.cl,TPump.n_dose,s!"0",s!"4",s!"g"|19],%[%[TPump.cl,TPump.n_hold,s!"0",s!"5",s!"g"|19],%[%[TPump.cl,TPump.n_now,s!"0",s!"i",s!"g"|19],%[%[TPump.cl,TPump.n_running,s!"0",(@pe_bl _ _ _ _),s!"g"|19],%[%[TPump.cl,TPump.n_content,s!"0",s!"i",s!"g"|19],%[%[TPump.cl,TPump.n_waiting,s!"0",s!"i",s!"g"|19],%[%[TPump.cl,TPump.n_asked,s!"0",s!"i",s!"g"|19],%[%[TPump.cl,TPump.n_missed,s!"0",s!"i",s!"g"|19],%[%[TPump.cl,TPump.n_total,s!"0",s!"i",s!"g"|19],%[%[TPump.cl,TPump.n_free,s!"0",s!"i",s!"g"|19],%[%[TPump.cl,TPump.n_sent,s!"0",%[s!"n"|23],s!"g"|19]|4]|2]|2]|2]|2]|2]|2]|2]|2]|2]|2]|2]|2]|2]|2]|2]|2],?_⟩
  walk_at "rd"
  walk_at "cb"
  case refine_2 =>
    rename_i hn
    exact eH fun o=>hn o.lk
  walk_at "rd"
  walk_at "cb"
  case refine_2 =>
    rename_i hn
    exact eH fun o=>hn o.ds
  walk_at "rd"
  walk_at "cb"
  case refine_2 =>
    rename_i hn
    exact eH fun o=>hn o.hd
  rename_i h1 h2 h3
  walk_at "rd"
  have hT1:=hT.upd (o:=.ins CP dx [("day",.ref dy)]) hx True.intro
  refine ⟨a,rs,g.rules,rfl,SqL.of (at_ne nax ha),hT1,hb,h100,fun rg l H2 s2 nl hl=>?_,fun no=>e (fun o=>no o.r) _ fun b o hbx z=>at_ne hbx z⟩
  have og:g.Ok:=⟨od,rg,h1,h2,h3⟩
  have nlx:l ≠ x:=fun z=>by rw [z,upd_same] at nl;cases nl
  walk_at "rd"
  intro sn n3
  have nxs:x ≠ sn:=ne_of_none upd_same n3
  have nsx:=nxs.symm
  walk_at "rd"
  simp only [upd_upd] at n3 ⊢
  have nls:l ≠ sn:=ne_of_none (at_ne nlx hl) n3
  have n4:=n3
  simp only [upd_ne nsx] at n4
  have n5:=s2.free n4
  rw [upd_ne nsx] at n5
  rw [upd_ne nlx] at nl
  refine q og l sn _ (fun b o hbx z=>by walk_at "hp") nl n5 ⟨upd_same,?_,by walk_at "hp",?_,at_ne nsx upd_same,nxd,nls⟩
  · exact ((((D.upd (o:=.ins CP dx [("day",.ref dy)]) hx True.intro nxd.symm).same s2).upd (s2 _ _ upd_same) True.intro nxd.symm).same (Same.new n3 _)).upd (at_ne nxs upd_same) True.intro nxd.symm
  · exact (((hT1.same s2).upd (s2 _ _ upd_same) True.intro).same (Same.new n3 _)).upd (at_ne nxs upd_same) True.intro
end
end Sp

set_option Elab.async false
set_option linter.all false
set_option maxRecDepth 100000
set_option maxHeartbeats 4000000


namespace Sp
open PySem L2
section
variable {P:Program}{w:World}{K:PySem.W.Frag}{mg:Str→Option Value}{base:Heap}{CP CD CB:Addr}
inductive SpTime (K:PySem.W.Frag) (CP CD:Addr) (vs:List V) (H:Hp) (Q:VK) (E:XK):Prop where
  | mk (p dx dy rl sn:Addr) (rs:List Addr) (g:Cf) (s:Sd.S) (c0:vs = [.ref p]) (c1:PumpAt K CP CD H p dx dy rl sn rs g s) (c2:Q (.int s.now) H):SpTime K CP CD vs H Q E
noncomputable def spTime (K:PySem.W.Frag) (CP CD:Addr):Sp:=fun vs H Q E=>SpTime K CP CD vs H Q E
theorem scPump_time:FnScope ["self"] ["self"] (defScope s_Pump_time):=⟨rfl,rfl,rfl,by decide +kernel,rfl,by decide +kernel,by decide +kernel⟩
theorem ok_Pump_time {f:Addr}{fd:FuncData} (F:Fun K "time" "Pump.time" s_Pump_time f fd) (TPump:TP K CP):FnOk P w K mg base CX0 1 f fd ["self"] (spTime K CP CD):=by
  refine F.ok scPump_time (fun vs H Q E h=>?_) (fun cdv A outer s₀ H vs Q E hr h=>?_)
  · obtain ⟨p,dx,dy,rl,sn,rs,g,s,rfl,_⟩:=h
    rfl
  obtain ⟨p,dx,dy,rl,sn,rs,g,s,rfl,a,q⟩:=h
  have ho:=a.ob
  refine ⟨_,%[%[%[FPump_now,TPump.cl,TPump.n_now,s!"0",s!"g"|5]|11]|4],?_⟩
  walk_at "rd"
  exact q
inductive SpRun (K:PySem.W.Frag) (CP CD:Addr) (vs:List V) (H:Hp) (Q:VK) (E:XK):Prop where
  | mk (p dx dy rl sn:Addr) (rs:List Addr) (g:Cf) (s:Sd.S) (c0:vs = [.ref p]) (c1:PumpAt K CP CD H p dx dy rl sn rs g s) (c2:Q (.bl s.run) H):SpRun K CP CD vs H Q E
noncomputable def spRun (K:PySem.W.Frag) (CP CD:Addr):Sp:=fun vs H Q E=>SpRun K CP CD vs H Q E
theorem scPump_is_running:FnScope ["self"] ["self"] (defScope s_Pump_is_running):=⟨rfl,rfl,rfl,by decide +kernel,rfl,by decide +kernel,by decide +kernel⟩
theorem ok_Pump_is_running {f:Addr}{fd:FuncData} (F:Fun K "is_running" "Pump.is_running" s_Pump_is_running f fd) (TPump:TP K CP):FnOk P w K mg base CX0 1 f fd ["self"] (spRun K CP CD):=by
  refine F.ok scPump_is_running (fun vs H Q E h=>?_) (fun cdv A outer s₀ H vs Q E hr h=>?_)
  · obtain ⟨p,dx,dy,rl,sn,rs,g,s,rfl,_⟩:=h
    rfl
  obtain ⟨p,dx,dy,rl,sn,rs,g,s,rfl,a,q⟩:=h
  have ho:=a.ob
  refine ⟨_,%[%[%[FPump_running,TPump.cl,TPump.n_running,s!"0",s!"g"|5]|11]|4],?_⟩
  walk_at "rd"
  exact q
noncomputable def stV (s:Sd.S):List V:=[.int s.con,.int s.wai,.int s.ask,.int s.mis,.int s.tot]
inductive SpState (K:PySem.W.Frag) (CP CD:Addr) (vs:List V) (H:Hp) (Q:VK) (E:XK):Prop where
  | mk (p dx dy rl sn:Addr) (rs:List Addr) (g:Cf) (s:Sd.S) (c0:vs = [.ref p]) (c1:PumpAt K CP CD H p dx dy rl sn rs g s) (c2:∀ t H',Same H H'→H t=none→H' t=some (.tup (stV s))→Q (.ref t) H'):SpState K CP CD vs H Q E
noncomputable def spState (K:PySem.W.Frag) (CP CD:Addr):Sp:=fun vs H Q E=>SpState K CP CD vs H Q E
theorem scPump_state:FnScope ["self"] ["self"] (defScope s_Pump_state):=⟨rfl,rfl,rfl,by decide +kernel,rfl,by decide +kernel,by decide +kernel⟩
theorem ok_Pump_state {f:Addr}{fd:FuncData} (F:Fun K "state" "Pump.state" s_Pump_state f fd) (TPump:TP K CP):FnOk P w K mg base CX0 1 f fd ["self"] (spState K CP CD):=by
  refine F.ok scPump_state (fun vs H Q E h=>?_) (fun cdv A outer s₀ H vs Q E hr h=>?_)
  · obtain ⟨p,dx,dy,rl,sn,rs,g,s,rfl,_⟩:=h
    rfl
  obtain ⟨p,dx,dy,rl,sn,rs,g,s,rfl,a,q⟩:=h
  have ho:=a.ob
  refine ⟨_,%[%[(@pe_tup _ _ _ _ _ %[%[FPump_content,TPump.cl,TPump.n_content,s!"0",s!"g"|5],%[%[FPump_waiting,TPump.cl,TPump.n_waiting,s!"0",s!"g"|5],%[%[FPump_asked,TPump.cl,TPump.n_asked,s!"0",s!"g"|5],%[%[FPump_missed,TPump.cl,TPump.n_missed,s!"0",s!"g"|5],%[%[FPump_total,TPump.cl,TPump.n_total,s!"0",s!"g"|5],s!"n",s!"g"|0],s!"g"|0],s!"g"|0],s!"g"|0],s!"g"|0])|11]|4],?_⟩
  walk_at "rd"
  intro t n
  exact q t _ (Same.new n _) n upd_same
inductive SpRoom (K:PySem.W.Frag) (CP CD:Addr) (vs:List V) (H:Hp) (Q:VK) (E:XK):Prop where
  | mk (p dx dy rl sn:Addr) (rs:List Addr) (g:Cf) (s:Sd.S) (c0:vs = [.ref p]) (c1:PumpAt K CP CD H p dx dy rl sn rs g s) (c2:g.Ok) (c3:∀ H',Same H H'→Q (.int (Sd.room g.rules s.sent)) H'):SpRoom K CP CD vs H Q E
noncomputable def spRoom (K:PySem.W.Frag) (CP CD:Addr):Sp:=fun vs H Q E=>SpRoom K CP CD vs H Q E
theorem scroom:FnScope ["pump"] ["pump"] (defScope s_room):=⟨rfl,rfl,rfl,by decide +kernel,rfl,by decide +kernel,by decide +kernel⟩
theorem ok_room {f f1:Addr}{fd fd1:FuncData} (F:Fun K "room" "room" s_room f fd) (TPump:TP K CP) (B_room_left:Fn P w K mg base CX0 2 "room_left" ["rules", "sent"] (spRL K) f1 fd1):FnOk P w K mg base CX0 3 f fd ["pump"] (spRoom K CP CD):=by
  refine F.ok scroom (fun vs H Q E h=>?_) (fun cdv A outer s₀ H vs Q E hr h=>?_)
  · obtain ⟨p,dx,dy,rl,sn,rs,g,s,rfl,_⟩:=h
    rfl
  obtain ⟨p,dx,dy,rl,sn,rs,g,s,rfl,a,og,q⟩:=h
  have ho:=a.ob
  have hl:=og.r.ln
  refine ⟨_,%[%[%[B_room_left.ok,s!"h",rfl,B_room_left.m,B_room_left.kp,B_room_left.b,.nil,pass0,%[%[FPump_rules,TPump.cl,TPump.n_rules,s!"0",s!"g"|5],%[%[FPump_sent,TPump.cl,TPump.n_sent,s!"0",s!"g"|5],s!"n",s!"g"|0],s!"g"|0],s!"d",s!"g",rfl|1]|11]|4],?_⟩
  walk_at "rd"
  exact ⟨rl,sn,rs,g.rules,s.sent,rfl,SqL.of a.rls,a.rt,by omega,by omega,SqL.of a.se,q⟩
/-! ### send -/
noncomputable def sendS (L:Int) (s:Sd.S) (m:Int):Sd.S:={ s with wai:=s.wai - min m s.wai,ask:=s.ask - (m - min m s.wai),con:=s.con - m,tot:=s.tot + m,sent:=Sd.push L s.sent m }
inductive SpSend (K:PySem.W.Frag) (CP CD:Addr) (vs:List V) (H:Hp) (Q:VK) (E:XK):Prop where
  | mk (p dx dy rl sn:Addr) (rs:List Addr) (g:Cf) (s:Sd.S) (m:Int) (c0:vs = [.ref p,.int m]) (c1:PumpAt K CP CD H p dx dy rl sn rs g s) (c2:g.Ok) (c3:s.sent.length≤1000) (c4:∀ H',But p sn H H'→PumpAt K CP CD H' p dx dy rl sn rs g (sendS (Sd.longest g.rules) s m)→Q .non H'):SpSend K CP CD vs H Q E
noncomputable def spSend (K:PySem.W.Frag) (CP CD:Addr):Sp:=fun vs H Q E=>SpSend K CP CD vs H Q E
theorem scsend:FnScope ["pump", "many", "waited"] ["pump", "many"] (defScope s_send):=⟨rfl,rfl,rfl,by decide +kernel,rfl,by decide +kernel,by decide +kernel⟩
theorem ok_send {f f1:Addr}{fd fd1:FuncData} (F:Fun K "send" "send" s_send f fd) (TPump:TP K CP) (Z:ZR K mg) (B_longest_window:Fn P w K mg base CX0 1 "longest_window" ["rules"] (spLW K) f1 fd1):FnOk P w K mg base CX0 2 f fd ["pump", "many"] (spSend K CP CD):=by
  refine F.ok scsend (fun vs H Q E h=>?_) (fun cdv A outer s₀ H vs Q E hr h=>?_)
  · obtain ⟨p,dx,dy,rl,sn,rs,g,s,m,rfl,_⟩:=h
    rfl
  obtain ⟨p,dx,dy,rl,sn,rs,g,s,m,rfl,a,og,h1000,q⟩:=h
  have ho:=a.ob
  have hl:=og.r.ln
  have hse:=a.se
  obtain ⟨n1,n2,n3,n4⟩:=a.npr
  have n2':=n2.symm
  refine ⟨_,%[%[(2),_,_,_,_,scsend.nd,rfl,(Or.inl rfl),%[(call_min2m rfl),rfl,Z.min,s!"k",%[s!"1",%[%[FPump_waiting,TPump.cl,TPump.n_waiting,s!"0",s!"g"|5],s!"n",s!"g"|0],s!"g"|0],s!"d",s!"d",s!"g",rfl|6],s!"g",s!"f"|12],%[%[FPump_waiting,TPump.cl,TPump.n_waiting,s!"0",s!"2",in_sub|14],%[%[FPump_asked,TPump.cl,TPump.n_asked,s!"0",%[op_sub,s!"1",s!"2"|3],in_sub|14],%[%[FPump_content,TPump.cl,TPump.n_content,s!"0",s!"1",in_sub|14],%[%[FPump_total,TPump.cl,TPump.n_total,s!"0",s!"1",in_add|14],%[%[%[PySem.F.plainAttrs_list,PySem.F.slot_list_append,PySem.F.type_list_append,mt_append,%[FPump_sent,TPump.cl,TPump.n_sent,s!"0",s!"g"|5],%[s!"1",s!"n",s!"g"|0],s!"g",s!"g",s!"g",s!"g",s!"g"|20],s!"g"|18],(@pss_pre _ _ _ %[%[%[op_gt,%[call_len_seq,rfl,Z.len,s!"k",%[%[FPump_sent,TPump.cl,TPump.n_sent,s!"0",s!"g"|5],s!"n",s!"g"|0],s!"d",s!"d",s!"g",rfl|6],%[B_longest_window.ok,s!"h",rfl,B_longest_window.m,B_longest_window.kp,B_longest_window.b,.nil,pass0,%[%[FPump_rules,TPump.cl,TPump.n_rules,s!"0",s!"g"|5],s!"n",s!"g"|0],s!"d",s!"g",rfl|1],(nomark _)|9],%[%[%[PySem.F.plainAttrs_list,PySem.F.slot_list_pop,PySem.F.type_list_pop,mt_popAt,%[FPump_sent,TPump.cl,TPump.n_sent,s!"0",s!"g"|5],%[s!"i",s!"n",s!"g"|0],s!"g",s!"g",s!"g",s!"g",s!"g"|20],s!"g"|18]|4],s!"z"|10]|4])|2]|2]|2]|2]|2]|2],?_⟩
  walk_at "rd"
  simp only [upd_upd]
  refine ⟨small1000 (by rw [List.length_map];exact h1000),?_⟩
  refine pre_by (fun σ' H'=>σ' = [some (.ref p),some (.int m),some (.int (min m s.wai))]∧But p sn H H'∧PumpAt K CP CD H' p dx dy rl sn rs g { sendS (Sd.longest g.rules) s m with sent:=s.sent ++ [m] }) ⟨rfl,?_,?_⟩ ?_
  · exact But.trans But.put But.putS
  · have a1:=a.put (s':={ sendS (Sd.longest g.rules) s m with sent:=s.sent }) rfl
    have a2:=a1.putS (xs:=s.sent ++ [m])
    rw [List.map_append] at a2
    exact a2
  clear ho hse
  rintro σ' H2 ⟨rfl,b2,a2⟩
  have ho:=a2.ob
  have hse:=a2.se
  have hse2:H2 sn=some (.lst ((s.sent ++ [m]).map V.int)):=hse
  have hrl:=SqL.of (K:=K) a2.rls
  walk_at "rd"
  refine ⟨rl,rs,g.rules,rfl,hrl,a2.rt,by omega,by omega,fun H3 s3=>?_⟩
  have hle:(((s.sent ++ [m]).map V.int).length:Int)=((s.sent ++ [m]).length:Nat):=by rw [List.length_map]
  walk_at "rd"
  have a3:=a2.same s3
  have ho3:=a3.ob
  have hse3:=a3.se
  have b3:=b2.trans (But.same s3)
  by_cases hc:((s.sent ++ [m]).length:Int) > Sd.longest g.rules
  · refine itY ?_ ?_
    · show Sd.longest g.rules < (((s.sent ++ [m]).map V.int).length:Int)
      omega
    have hpop:∃ y ys,(s.sent ++ [m]).map V.int=y :: ys:=by
      cases hs:s.sent with
      | nil=>exact ⟨_,_,rfl⟩
      | cons=>exact ⟨_,_,rfl⟩
    obtain ⟨y,ys,hy⟩:=hpop
    have hse4:H3 sn=some (.lst (y :: ys)):=by rw [← hy];exact hse3
    walk_at "rd"
    refine ⟨sn,_,0,0,y,rfl,rfl,hse4,by decide,by decide,(by unfold seqIndex?;simp),rfl,?_⟩
    walk_at "rd"
    refine q _ (b3.trans But.putS) ?_
    have a4:=a3.putS (xs:=(s.sent ++ [m]).tail)
    have et:((s.sent ++ [m]).tail).map V.int=(y :: ys).eraseIdx 0:=by rw [List.map_tail,hy];rfl
    rw [et] at a4
    have e5:(sendS (Sd.longest g.rules) s m) = { sendS (Sd.longest g.rules) s m with sent:=(s.sent ++ [m]).tail }:=by
      unfold sendS Sd.push
      rw [if_pos hc]
    rw [e5]
    exact a4
  · refine itN ?_ ?_
    · show ¬ Sd.longest g.rules < (((s.sent ++ [m]).map V.int).length:Int)
      omega
    walk_at "rd"
    refine q _ b3 ?_
    have e5:(sendS (Sd.longest g.rules) s m) = { sendS (Sd.longest g.rules) s m with sent:=s.sent ++ [m] }:=by
      unfold sendS Sd.push
      rw [if_neg hc]
    rw [e5]
    exact a3
/-! ### what is above the hold -/
noncomputable def missS (h:Int) (s:Sd.S):Sd.S:={ s with wai:=s.wai - max 0 (s.wai - h),mis:=s.mis + max 0 (s.wai - h) }
inductive SpMiss (K:PySem.W.Frag) (CP CD:Addr) (vs:List V) (H:Hp) (Q:VK) (E:XK):Prop where
  | mk (p dx dy rl sn:Addr) (rs:List Addr) (g:Cf) (s:Sd.S) (c0:vs = [.ref p]) (c1:PumpAt K CP CD H p dx dy rl sn rs g s) (c2:∀ H',But p sn H H'→PumpAt K CP CD H' p dx dy rl sn rs g (missS g.hold s)→Q .non H'):SpMiss K CP CD vs H Q E
noncomputable def spMiss (K:PySem.W.Frag) (CP CD:Addr):Sp:=fun vs H Q E=>SpMiss K CP CD vs H Q E
theorem scmiss_above_hold:FnScope ["pump", "above"] ["pump"] (defScope s_miss_above_hold):=⟨rfl,rfl,rfl,by decide +kernel,rfl,by decide +kernel,by decide +kernel⟩
theorem ok_miss_above_hold {f:Addr}{fd:FuncData} (F:Fun K "miss_above_hold" "miss_above_hold" s_miss_above_hold f fd) (TPump:TP K CP) (Z:ZR K mg):FnOk P w K mg base CX0 1 f fd ["pump"] (spMiss K CP CD):=by
  refine F.ok scmiss_above_hold (fun vs H Q E h=>?_) (fun cdv A outer s₀ H vs Q E hr h=>?_)
  · obtain ⟨p,dx,dy,rl,sn,rs,g,s,rfl,_⟩:=h
    rfl
  obtain ⟨p,dx,dy,rl,sn,rs,g,s,rfl,a,q⟩:=h
  have ho:=a.ob
  refine ⟨_,%[%[(1),_,_,_,_,scmiss_above_hold.nd,rfl,(Or.inl rfl),%[(call_max2m rfl),rfl,Z.max,s!"k",%[s!"i",%[%[op_sub,%[FPump_waiting,TPump.cl,TPump.n_waiting,s!"0",s!"g"|5],%[FPump_hold,TPump.cl,TPump.n_hold,s!"0",s!"g"|5]|3],s!"n",s!"g"|0],s!"g"|0],s!"d",s!"d",s!"g",rfl|6],s!"g",s!"f"|12],%[%[FPump_waiting,TPump.cl,TPump.n_waiting,s!"0",s!"1",in_sub|14],%[%[FPump_missed,TPump.cl,TPump.n_missed,s!"0",s!"1",in_add|14]|4]|2]|2],?_⟩
  walk_at "rd"
  simp only [upd_upd]
  exact q _ But.put (a.put (s':=missS g.hold s) rfl)
end
end Sp

set_option Elab.async false
set_option linter.all false
set_option maxRecDepth 100000
set_option maxHeartbeats 4000000


namespace Sp
open PySem L2
section
variable {P:Program}{w:World}{K:PySem.W.Frag}{mg:Str→Option Value}{base:Heap}{CP CD CB:Addr}
theorem due_nn {ticks:Int}{ps:List Part} (o:DayM.Ok ticks ps) {t:Int}:0≤DayM.due ticks ps t:=by
  have t1:=o.t1
  have m0:=Int.emod_nonneg t (show ticks ≠ 0 by omega)
  have pl:=DayM.plc_is o m0
  have hb:=o.b _ pl.lt
  unfold DayM.due DayM.dw
  generalize ps.getD (DayM.plc ps (t % ticks)) DayM.nil3=q at hb
  have h1:q.2.1 * (t % ticks - q.1) / q.2.2≤q.2.1 * (t % ticks + 1 - q.1) / q.2.2:=Int.ediv_le_ediv (by omega) (Int.mul_le_mul_of_nonneg_left (by omega) hb.2.1)
  omega
theorem Cf.Ok.good {g:Cf} (o:g.Ok):Sd.Good g.c:=by
  have al:∀ r ∈ g.rules,RGood1 r:=fun r hr=>by
    obtain ⟨i,hi,e⟩:=List.getElem_of_mem hr
    have:=o.r.al i hi
    rw [List.getD_eq_getElem?_getD,List.getElem?_eq_getElem hi,e] at this
    exact this
  refine ⟨fun r hr=>(al r hr).1,fun r hr=>(al r hr).2,fun z=>?_,o.lk,o.ds,o.hd,fun t _=>due_nn o.d⟩
  have:=o.r.ln
  have z:g.rules = []:=z
  rw [z] at this
  simp at this
theorem sent_len {g:Cf}{s:Sd.S} (o:g.Ok) (k:Sd.Ok g.c s):s.sent.length≤1000:=by
  have h1:=k.len
  have h2:=o.good.L1
  omega
inductive SpTick (K:PySem.W.Frag) (CP CD:Addr) (vs:List V) (H:Hp) (Q:VK) (E:XK):Prop where
  | mk (p dx dy rl sn:Addr) (rs:List Addr) (g:Cf) (s:Sd.S) (c0:vs = [.ref p]) (c1:PumpAt K CP CD H p dx dy rl sn rs g s) (c2:g.Ok) (c3:Sd.Ok g.c s) (c4:∀ H',But p sn H H'→PumpAt K CP CD H' p dx dy rl sn rs g (Sd.tick g.c s)→Q (.int (Sd.many g.c s)) H'):SpTick K CP CD vs H Q E
noncomputable def spTick (K:PySem.W.Frag) (CP CD:Addr):Sp:=fun vs H Q E=>SpTick K CP CD vs H Q E
theorem sctick:FnScope ["pump", "many"] ["pump"] (defScope s_tick):=⟨rfl,rfl,rfl,by decide +kernel,rfl,by decide +kernel,by decide +kernel⟩
theorem ok_tick {f f1 f2 f3 f4:Addr}{fd fd1 fd2 fd3 fd4:FuncData} (F:Fun K "tick" "tick" s_tick f fd) (TPump:TP K CP) (Z:ZR K mg) (B_room:Fn P w K mg base CX0 3 "room" ["pump"] (spRoom K CP CD) f1 fd1)
    (B_send:Fn P w K mg base CX0 2 "send" ["pump", "many"] (spSend K CP CD) f2 fd2) (B_miss_above_hold:Fn P w K mg base CX0 1 "miss_above_hold" ["pump"] (spMiss K CP CD) f3 fd3)
    (M_due:Mt P w K mg base CX0 3 "due" CD ["self", "tick"] (spDue K CD) f4 fd4):FnOk P w K mg base CX0 4 f fd ["pump"] (spTick K CP CD):=by
  refine F.ok sctick (fun vs H Q E h=>?_) (fun cdv A outer s₀ H vs Q E hr h=>?_)
  · obtain ⟨p,dx,dy,rl,sn,rs,g,s,rfl,_⟩:=h
    rfl
  obtain ⟨p,dx,dy,rl,sn,rs,g,s,rfl,a,og,ok,q⟩:=h
  have ho:=a.ob
  have hnow:=ok.now
  have hsl:=sent_len og ok
  refine ⟨_,%[(@ps_cut _ _ _ %[(@pt_truth _ _ _ %[FPump_running,TPump.cl,TPump.n_running,s!"0",s!"g"|5] (fun _=>rfl)),%[%[FPump_waiting,TPump.cl,TPump.n_waiting,s!"0",(@pe_meth _ _ _ _ _ _ _ _ _ _ _ _ _ _ _ _ _ _ _ _ %[FPump_day,TPump.cl,TPump.n_day,s!"0",s!"g"|5] M_due.cl M_due.mt M_due.ok s!"h" M_due.b .nil pass0 %[%[FPump_now,TPump.cl,TPump.n_now,s!"0",s!"g"|5],s!"n",s!"g"|0] s!"g" rfl s!"g"),in_add|14]|4],s!"z"|10]),%[%[(1),_,_,_,_,sctick.nd,rfl,(Or.inl rfl),%[(call_min3m rfl),rfl,Z.min,s!"k",%[%[B_room.ok,s!"h",rfl,B_room.m,B_room.kp,B_room.b,.nil,pass0,%[s!"0",s!"n",s!"g"|0],s!"d",s!"g",rfl|1],%[%[FPump_content,TPump.cl,TPump.n_content,s!"0",s!"g"|5],%[%[op_add,%[FPump_waiting,TPump.cl,TPump.n_waiting,s!"0",s!"g"|5],%[FPump_asked,TPump.cl,TPump.n_asked,s!"0",s!"g"|5]|3],s!"n",s!"g"|0],s!"g"|0],s!"g"|0],s!"d",s!"d",s!"g",rfl|6],s!"g",s!"f"|12],%[%[%[B_send.ok,s!"h",rfl,B_send.m,B_send.kp,B_send.b,.nil,pass0,%[s!"0",%[s!"1",s!"n",s!"g"|0],s!"g"|0],s!"d",s!"g",rfl|1],s!"g"|18],%[%[%[B_miss_above_hold.ok,s!"h",rfl,B_miss_above_hold.m,B_miss_above_hold.kp,B_miss_above_hold.b,.nil,pass0,%[s!"0",s!"n",s!"g"|0],s!"d",s!"g",rfl|1],s!"g"|18],%[%[FPump_now,TPump.cl,TPump.n_now,s!"0",s!"i",in_add|14],%[%[FPump_free,TPump.cl,TPump.n_free,s!"0",%[(call_max2m rfl),rfl,Z.max,s!"k",%[s!"i",%[%[op_sub,%[FPump_free,TPump.cl,TPump.n_free,s!"0",s!"g"|5],s!"i"|3],s!"n",s!"g"|0],s!"g"|0],s!"d",s!"d",s!"g",rfl|6],s!"g"|15],%[%[s!"1"|11]|4]|2]|2]|2]|2]|2]|2],?_⟩
  dsimp only [cxOf,Cx.nox]
  refine ⟨fun σ' H'=>σ' = [some (.ref p),none]∧But p sn H H'∧PumpAt K CP CD H' p dx dy rl sn rs g { s with wai:=Sd.wai1 g.c s },?_,?_⟩
  · walk_at "rd"
    by_cases hrun:s.run=true
    · refine Eq.mpr (if_pos hrun) ?_
      obtain ⟨dx',pt,sm,rs',hd,_,_⟩:=id a.day
      walk_at "rd"
      refine ⟨dy,s.now,g.ticks,g.ps,rfl,a.day,og.d,hnow,fun H2 s2=>?_⟩
      have a2:=a.same s2
      have ho2:=a2.ob
      walk_at "rd"
      refine ⟨But.trans (But.same s2) But.put,?_⟩
      have e:Sd.wai1 g.c s=s.wai + DayM.due g.ticks g.ps s.now:=by unfold Sd.wai1;rw [if_pos hrun];rfl
      rw [e]
      exact a2.put (s':={ s with wai:=s.wai + DayM.due g.ticks g.ps s.now }) rfl
    · refine Eq.mpr (if_neg hrun) ?_
      walk_at "rd"
      refine ⟨But.refl,?_⟩
      have e:Sd.wai1 g.c s=s.wai:=by unfold Sd.wai1;rw [if_neg hrun]
      rw [e]
      exact a
  clear ho
  rintro σ' H2 ⟨rfl,b2,a2⟩
  have ho:=a2.ob
  walk_at "rd"
  refine ⟨p,dx,dy,rl,sn,rs,g,_,rfl,a2,og,fun H3 s3=>?_⟩
  have a3:=a2.same s3
  have ho3:=a3.ob
  walk_at "rd"
  refine ⟨p,dx,dy,rl,sn,rs,g,_,_,rfl,a3,og,hsl,fun H4 b4 a4=>?_⟩
  walk_at "rd"
  refine ⟨p,dx,dy,rl,sn,rs,g,_,rfl,a4,fun H5 b5 a5=>?_⟩
  have ho5:=a5.ob
  walk_at "rd"
  simp only [upd_upd]
  refine q _ ((((b2.trans (But.same s3)).trans b4).trans b5).trans But.put) ?_
  exact a5.put (s':=Sd.tick g.c s) rfl
end
end Sp

set_option Elab.async false
set_option linter.all false
set_option maxRecDepth 100000
set_option maxHeartbeats 4000000


namespace Sp
open PySem L2
section
variable {P:Program}{w:World}{K:PySem.W.Frag}{mg:Str→Option Value}{base:Heap}{CP CD CB CL CN:Addr}
/-! ### start, stop -/
inductive SpStart (K:PySem.W.Frag) (CP CD:Addr) (vs:List V) (H:Hp) (Q:VK) (E:XK):Prop where
  | mk (p dx dy rl sn:Addr) (rs:List Addr) (g:Cf) (s:Sd.S) (c0:vs = [.ref p]) (c1:PumpAt K CP CD H p dx dy rl sn rs g s) (c2:∀ H',But p sn H H'→PumpAt K CP CD H' p dx dy rl sn rs g (Sd.startS s)→Q .non H'):SpStart K CP CD vs H Q E
noncomputable def spStart (K:PySem.W.Frag) (CP CD:Addr):Sp:=fun vs H Q E=>SpStart K CP CD vs H Q E
theorem scstart:FnScope ["pump"] ["pump"] (defScope s_start):=⟨rfl,rfl,rfl,by decide +kernel,rfl,by decide +kernel,by decide +kernel⟩
theorem ok_start {f:Addr}{fd:FuncData} (F:Fun K "start" "start" s_start f fd) (TPump:TP K CP):FnOk P w K mg base CX0 1 f fd ["pump"] (spStart K CP CD):=by
  refine F.ok scstart (fun vs H Q E h=>?_) (fun cdv A outer s₀ H vs Q E hr h=>?_)
  · obtain ⟨p,dx,dy,rl,sn,rs,g,s,rfl,_⟩:=h
    rfl
  obtain ⟨p,dx,dy,rl,sn,rs,g,s,rfl,a,q⟩:=h
  have ho:=a.ob
  refine ⟨_,%[%[FPump_running,TPump.cl,TPump.n_running,s!"0",(@pe_bl _ _ _ _),s!"g"|15]|4],?_⟩
  walk_at "rd"
  exact q _ But.put (a.put (s':=Sd.startS s) rfl)
inductive SpStop (K:PySem.W.Frag) (CP CD:Addr) (vs:List V) (H:Hp) (Q:VK) (E:XK):Prop where
  | mk (p dx dy rl sn:Addr) (rs:List Addr) (g:Cf) (s:Sd.S) (c0:vs = [.ref p]) (c1:PumpAt K CP CD H p dx dy rl sn rs g s) (c2:∀ H',But p sn H H'→PumpAt K CP CD H' p dx dy rl sn rs g (Sd.stopS s)→Q .non H'):SpStop K CP CD vs H Q E
noncomputable def spStop (K:PySem.W.Frag) (CP CD:Addr):Sp:=fun vs H Q E=>SpStop K CP CD vs H Q E
theorem scstop:FnScope ["pump"] ["pump"] (defScope s_stop):=⟨rfl,rfl,rfl,by decide +kernel,rfl,by decide +kernel,by decide +kernel⟩
theorem ok_stop {f:Addr}{fd:FuncData} (F:Fun K "stop" "stop" s_stop f fd) (TPump:TP K CP):FnOk P w K mg base CX0 1 f fd ["pump"] (spStop K CP CD):=by
  refine F.ok scstop (fun vs H Q E h=>?_) (fun cdv A outer s₀ H vs Q E hr h=>?_)
  · obtain ⟨p,dx,dy,rl,sn,rs,g,s,rfl,_⟩:=h
    rfl
  obtain ⟨p,dx,dy,rl,sn,rs,g,s,rfl,a,q⟩:=h
  have ho:=a.ob
  refine ⟨_,%[%[FPump_running,TPump.cl,TPump.n_running,s!"0",(@pe_bl _ _ _ _),s!"g"|15],%[%[FPump_missed,TPump.cl,TPump.n_missed,s!"0",%[op_add,%[FPump_waiting,TPump.cl,TPump.n_waiting,s!"0",s!"g"|5],%[FPump_asked,TPump.cl,TPump.n_asked,s!"0",s!"g"|5]|3],in_add|14],%[%[FPump_waiting,TPump.cl,TPump.n_waiting,s!"0",s!"i",s!"g"|15],%[%[FPump_asked,TPump.cl,TPump.n_asked,s!"0",s!"i",s!"g"|15]|4]|2]|2]|2],?_⟩
  walk_at "rd"
  simp only [upd_upd]
  exact q _ But.put (a.put (s':=Sd.stopS s) rfl)
/-! ### fill -/
inductive SpFill (K:PySem.W.Frag) (CP CD CB:Addr) (vs:List V) (H:Hp) (Q:VK) (E:XK):Prop where
  | mk (p dx dy rl sn:Addr) (rs:List Addr) (g:Cf) (s:Sd.S) (m:Int) (c0:vs = [.ref p,.int m]) (c1:PumpAt K CP CD H p dx dy rl sn rs g s) (c2:(-9000000000000000000 < m∧m < 9000000000000000000)) (c3:((0≤m∧m≤1000000)→∀ H',But p sn H H'→PumpAt K CP CD H' p dx dy rl sn rs g { s with con:=s.con + m }→Q .non H')) (c4:(¬ (0≤m∧m≤1000000)→E (.ref CB) none H)):SpFill K CP CD CB vs H Q E
noncomputable def spFill (K:PySem.W.Frag) (CP CD CB:Addr):Sp:=fun vs H Q E=>SpFill K CP CD CB vs H Q E
theorem scfill:FnScope ["pump", "many"] ["pump", "many"] (defScope s_fill):=⟨rfl,rfl,rfl,by decide +kernel,rfl,by decide +kernel,by decide +kernel⟩
theorem ok_fill {f f1:Addr}{fd fd1:FuncData} (F:Fun K "fill" "fill" s_fill f fd) (TPump:TP K CP) (Z:ZR K mg) (B_check_between:Fn P w K mg base (CXE P w) 1 "check_between" ["what", "number", "least", "most"] (spCB CB) f1 fd1):FnOk P w K mg base (CXE P w) 2 f fd ["pump", "many"] (spFill K CP CD CB):=by
  refine F.okX scfill (fun vs H Q E h=>?_) (fun cdv A outer s₀ H vs Q E hr h=>?_)
  · obtain ⟨p,dx,dy,rl,sn,rs,g,s,m,rfl,_⟩:=h
    rfl
  obtain ⟨p,dx,dy,rl,sn,rs,g,s,m,rfl,a,hm,q,e⟩:=h
  have ho:=a.ob
  refine ⟨_,%[%[%[B_check_between.ok,s!"h",rfl,B_check_between.m,B_check_between.kp,B_check_between.b,.nil,(passes_fn own_cxOf),%[s!"s",%[s!"1",%[s!"i",%[(@pe_globI _ _ (1000000) _ rfl Z.MOST s!"d"),s!"n",s!"g"|0],s!"g"|0],s!"g"|0],s!"g"|0],s!"d",s!"g",rfl|1],s!"g"|18],%[%[FPump_content,TPump.cl,TPump.n_content,s!"0",s!"1",in_add|14]|4]|2],?_⟩
  walk_at "rd"
  refine ⟨_,m,0,1000000,rfl,by decide,hm,by decide,by decide,fun hg=>?_,e⟩
  walk_at "rd"
  exact q hg _ But.put (a.put (s':={ s with con:=s.con + m }) rfl)
/-! ### press -/
structure ZLk (K:PySem.W.Frag) (mg:Str→Option Value) (CL:Addr):Prop where
  xLocked:ExcV K CL
  Locked:mg "Locked"=some (.ref CL)
noncomputable def PressOk (g:Cf) (s:Sd.S) (m:Int):Prop:=s.run=true∧1≤m∧m≤g.dose∧s.fre≤0
inductive SpPress (K:PySem.W.Frag) (CP CD CL:Addr) (vs:List V) (H:Hp) (Q:VK) (E:XK):Prop where
  | mk (p dx dy rl sn:Addr) (rs:List Addr) (g:Cf) (s:Sd.S) (m:Int) (c0:vs = [.ref p,.int m]) (c1:PumpAt K CP CD H p dx dy rl sn rs g s) (c2:g.Ok) (c3:Sd.Ok g.c s) (c4:(-9000000000000000000 < m∧m < 9000000000000000000)) (c5:(PressOk g s m→∀ H',But p sn H H'→PumpAt K CP CD H' p dx dy rl sn rs g { s with ask:=s.ask + m,fre:=g.lock }→Q .non H')) (c6:(¬ PressOk g s m→E (.ref CL) none H)):SpPress K CP CD CL vs H Q E
noncomputable def spPress (K:PySem.W.Frag) (CP CD CL:Addr):Sp:=fun vs H Q E=>SpPress K CP CD CL vs H Q E
theorem scpress:FnScope ["pump", "many", "most", "ticks"] ["pump", "many"] (defScope s_press):=⟨rfl,rfl,rfl,by decide +kernel,rfl,by decide +kernel,by decide +kernel⟩
theorem ok_press {f:Addr}{fd:FuncData} (F:Fun K "press" "press" s_press f fd) (TPump:TP K CP) (Z:ZLk K mg CL):FnOk P w K mg base (CXE P w) 1 f fd ["pump", "many"] (spPress K CP CD CL):=by
  refine F.okX scpress (fun vs H Q E h=>?_) (fun cdv A outer s₀ H vs Q E hr h=>?_)
  · obtain ⟨p,dx,dy,rl,sn,rs,g,s,m,rfl,_⟩:=h
    rfl
  obtain ⟨p,dx,dy,rl,sn,rs,g,s,m,rfl,a,og,ok,hm,q,e⟩:=h
  have hds:=og.ds
  obtain ⟨now,run,con,wai,ask,mis,tot,fre,sent⟩:=s
  have hf:0≤fre∧fre≤1000000:=ok.fre
  have ho:H p=some (.ins CP dx (pumpF ⟨.ref dy,.ref rl,.int g.lock,.int g.dose,.int g.hold,.int now,.bl run,.int con,.int wai,.int ask,.int mis,.int tot,.int fre,.ref sn⟩)):=a.ob
  unfold PressOk at q e
  cases run with
  | false =>
    refine ⟨_,%[%[(2),_,_,_,_,scpress.nd,rfl,(Or.inl rfl),%[FPump_dose,TPump.cl,TPump.n_dose,s!"0",s!"g"|5],s!"g",s!"f"|12],%[%[(3),_,_,_,_,scpress.nd,rfl,(Or.inl rfl),%[FPump_free,TPump.cl,TPump.n_free,s!"0",s!"g"|5],s!"g",s!"f"|12],%[%[(@pt_not _ _ _ _ (@pt_truth _ _ _ %[FPump_running,TPump.cl,TPump.n_running,s!"0",s!"g"|5] (fun _=>rfl))),%[(@ps_raise _ _ _ _ _ _ _ _ _ _ (raises_fn own_cxOf) rfl Z.xLocked rfl Z.Locked %[s!"s",s!"n",s!"g"|0] s!"g" rfl s!"d")|4],s!"z"|10],%[%[(PW.pt %[%[op_lt,s!"1",s!"i",(nomark _)|9],(@pw_or1 _ _ _ _ %[op_gt,s!"1",s!"2",(nomark _)|9])|21]),%[(@ps_raise _ _ _ _ _ _ _ _ _ _ (raises_fn own_cxOf) rfl Z.xLocked rfl Z.Locked %[(@pe_join _ _ _ _ _ _ %[s!"s",%[(@pe_fmtI _ _ _ _ s!"1"),%[s!"s",%[(@pe_fmtI _ _ _ _ s!"2"),(@pj_nil _)|17]|17]|17]|17] s!"d"),s!"n",s!"g"|0] s!"g" rfl s!"d")|4],s!"z"|10],%[%[%[op_gt,s!"3",s!"i",(nomark _)|9],%[(@ps_raise _ _ _ _ _ _ _ _ _ _ (raises_fn own_cxOf) rfl Z.xLocked rfl Z.Locked %[(@pe_join _ _ _ _ _ _ %[s!"s",%[(@pe_fmtI _ _ _ _ s!"3"),%[s!"s",(@pj_nil _)|17]|17]|17] s!"d"),s!"n",s!"g"|0] s!"g" rfl s!"d")|4],s!"z"|10],%[%[FPump_asked,TPump.cl,TPump.n_asked,s!"0",s!"1",in_add|14],%[%[FPump_free,TPump.cl,TPump.n_free,s!"0",%[FPump_lock,TPump.cl,TPump.n_lock,s!"0",s!"g"|5],s!"g"|15]|4]|2]|2]|2]|2]|2]|2],?_⟩
    walk_at "rd"
    exact e (by simp)
  | true =>
    refine ⟨_,%[%[(2),_,_,_,_,scpress.nd,rfl,(Or.inl rfl),%[FPump_dose,TPump.cl,TPump.n_dose,s!"0",s!"g"|5],s!"g",s!"f"|12],%[%[(3),_,_,_,_,scpress.nd,rfl,(Or.inl rfl),%[FPump_free,TPump.cl,TPump.n_free,s!"0",s!"g"|5],s!"g",s!"f"|12],%[%[(@pt_not _ _ _ _ (@pt_truth _ _ _ %[FPump_running,TPump.cl,TPump.n_running,s!"0",s!"g"|5] (fun _=>rfl))),%[(@ps_raise _ _ _ _ _ _ _ _ _ _ (raises_fn own_cxOf) rfl Z.xLocked rfl Z.Locked %[s!"s",s!"n",s!"g"|0] s!"g" rfl s!"d")|4],s!"z"|10],%[%[(PW.pt %[%[op_lt,s!"1",s!"i",(nomark _)|9],(@pw_or1 _ _ _ _ %[op_gt,s!"1",s!"2",(nomark _)|9])|21]),%[(@ps_raise _ _ _ _ _ _ _ _ _ _ (raises_fn own_cxOf) rfl Z.xLocked rfl Z.Locked %[(@pe_join _ _ _ _ _ _ %[s!"s",%[(@pe_fmtI _ _ _ _ s!"1"),%[s!"s",%[(@pe_fmtI _ _ _ _ s!"2"),(@pj_nil _)|17]|17]|17]|17] s!"d"),s!"n",s!"g"|0] s!"g" rfl s!"d")|4],s!"z"|10],%[%[%[op_gt,s!"3",s!"i",(nomark _)|9],%[(@ps_raise _ _ _ _ _ _ _ _ _ _ (raises_fn own_cxOf) rfl Z.xLocked rfl Z.Locked %[(@pe_join _ _ _ _ _ _ %[s!"s",%[(@pe_fmtI _ _ _ _ s!"3"),%[s!"s",(@pj_nil _)|17]|17]|17] s!"d"),s!"n",s!"g"|0] s!"g" rfl s!"d")|4],s!"z"|10],%[%[FPump_asked,TPump.cl,TPump.n_asked,s!"0",s!"1",in_add|14],%[%[FPump_free,TPump.cl,TPump.n_free,s!"0",%[FPump_lock,TPump.cl,TPump.n_lock,s!"0",s!"g"|5],s!"g"|15]|4]|2]|2]|2]|2]|2]|2],?_⟩
    by_cases m1:m < 1
    · walk_at "rd"
      exact e (by simp;omega)
    by_cases m2:g.dose < m
    · walk_at "rd"
      exact e (by simp;omega)
    by_cases f1:0 < fre
    · walk_at "rd"
      exact e (by simp;omega)
    walk_at "rd"
    simp only [upd_upd]
    exact q ⟨rfl,by omega,by omega,by show fre≤0;omega⟩ _ But.put (a.put (s':=⟨now,true,con,wai,ask + m,mis,tot,g.lock,sent⟩) rfl)
/-! ### report -/
structure ZNt (K:PySem.W.Frag) (mg:Str→Option Value) (CN:Addr):Prop where
  xNotThere:ExcV K CN
  NotThere:mg "NotThere"=some (.ref CN)
  len:mg "len"=none
noncomputable def RepO (s:Sd.S) (back m:Int):Prop:=1≤back∧back≤s.sent.length∧0≤m∧m≤Sd.known s.sent back
inductive SpReport (K:PySem.W.Frag) (CP CD CN:Addr) (vs:List V) (H:Hp) (Q:VK) (E:XK):Prop where
  | mk (p dx dy rl sn:Addr) (rs:List Addr) (g:Cf) (s:Sd.S) (back m:Int) (c0:vs = [.ref p,.int back,.int m]) (c1:PumpAt K CP CD H p dx dy rl sn rs g s) (c2:g.Ok) (c3:Sd.Ok g.c s) (c4:(-9000000000000000000 < back∧back < 9000000000000000000)) (c5:(-9000000000000000000 < m∧m < 9000000000000000000)) (c6:(RepO s back m→∀ H',But p sn H H'→PumpAt K CP CD H' p dx dy rl sn rs g (Sd.repS s back m)→Q .non H')) (c7:(¬ RepO s back m→E (.ref CN) none H)):SpReport K CP CD CN vs H Q E
noncomputable def spReport (K:PySem.W.Frag) (CP CD CN:Addr):Sp:=fun vs H Q E=>SpReport K CP CD CN vs H Q E
theorem screport:FnScope ["pump", "back", "many", "place", "known"] ["pump", "back", "many"] (defScope s_report):=⟨rfl,rfl,rfl,by decide +kernel,rfl,by decide +kernel,by decide +kernel⟩
theorem ok_report {f:Addr}{fd:FuncData} (F:Fun K "report" "report" s_report f fd) (TPump:TP K CP) (Z:ZNt K mg CN):FnOk P w K mg base (CXE P w) 1 f fd ["pump", "back", "many"] (spReport K CP CD CN):=by
  refine F.okX screport (fun vs H Q E h=>?_) (fun cdv A outer s₀ H vs Q E hr h=>?_)
  · obtain ⟨p,dx,dy,rl,sn,rs,g,s,back,m,rfl,_⟩:=h
    rfl
  obtain ⟨p,dx,dy,rl,sn,rs,g,s,back,m,rfl,a,og,ok,hb,hm,q,e⟩:=h
  have ho:=a.ob
  have hse:=a.se
  have hsl:=sent_len og ok
  obtain ⟨n1,n2,n3,n4⟩:=a.npr
  have n2':=n2.symm
  have hle:((s.sent.map V.int).length:Int)=(s.sent.length:Nat):=by rw [List.length_map]
  unfold RepO at q e
  refine ⟨_,%[%[(PW.pt %[%[op_lt,s!"1",s!"i",(nomark _)|9],(@pw_or1 _ _ _ _ %[op_gt,s!"1",%[call_len_seq,rfl,Z.len,s!"k",%[%[FPump_sent,TPump.cl,TPump.n_sent,s!"0",s!"g"|5],s!"n",s!"g"|0],s!"d",s!"d",s!"g",rfl|6],(nomark _)|9])|21]),%[(@ps_raise _ _ _ _ _ _ _ _ _ _ (raises_fn own_cxOf) rfl Z.xNotThere rfl Z.NotThere %[(@pe_join _ _ _ _ _ _ %[s!"s",%[(@pe_fmtI _ _ _ _ s!"1"),%[s!"s",(@pj_nil _)|17]|17]|17] s!"d"),s!"n",s!"g"|0] s!"g" rfl s!"d")|4],s!"z"|10],%[%[(3),_,_,_,_,screport.nd,rfl,(Or.inl rfl),%[op_sub,%[call_len_seq,rfl,Z.len,s!"k",%[%[FPump_sent,TPump.cl,TPump.n_sent,s!"0",s!"g"|5],s!"n",s!"g"|0],s!"d",s!"d",s!"g",rfl|6],s!"1"|3],s!"g",s!"f"|12],%[%[(4),_,_,_,_,screport.nd,rfl,(Or.inl rfl),%[ix_list,%[FPump_sent,TPump.cl,TPump.n_sent,s!"0",s!"g"|5],s!"3",(fun _ _=>rfl)|8],s!"g",s!"f"|12],%[%[(PW.pt %[%[op_lt,s!"2",s!"i",(nomark _)|9],(@pw_or1 _ _ _ _ %[op_gt,s!"2",s!"4",(nomark _)|9])|21]),%[(@ps_raise _ _ _ _ _ _ _ _ _ _ (raises_fn own_cxOf) rfl Z.xNotThere rfl Z.NotThere %[(@pe_join _ _ _ _ _ _ %[s!"s",%[(@pe_fmtI _ _ _ _ s!"2"),%[s!"s",%[(@pe_fmtI _ _ _ _ s!"4"),(@pj_nil _)|17]|17]|17]|17] s!"d"),s!"n",s!"g"|0] s!"g" rfl s!"d")|4],s!"z"|10],%[(@ps_asg _ _ _ _ _ _ s!"2" (@pg_sub _ _ _ _ _ _ _ %[FPump_sent,TPump.cl,TPump.n_sent,s!"0",s!"g"|5] s!"3" set_list s!"g") s!"g" s!"g" s!"g"),%[%[FPump_content,TPump.cl,TPump.n_content,s!"0",%[op_sub,s!"4",s!"2"|3],in_add|14],%[%[FPump_missed,TPump.cl,TPump.n_missed,s!"0",%[op_sub,s!"4",s!"2"|3],in_add|14],%[%[FPump_total,TPump.cl,TPump.n_total,s!"0",%[op_sub,s!"4",s!"2"|3],in_sub|14]|4]|2]|2]|2]|2]|2]|2]|2],?_⟩
  dsimp only [cxOf,Cx.nox]
  by_cases b1:back < 1
  · walk_at "rd"
    exact e (by omega)
  by_cases b2:back > (s.sent.length:Int)
  · walk_at "rd"
    exact e (by omega)
  have hp:Sd.plc s.sent back < s.sent.length:=by unfold Sd.plc;omega
  have hix:ixN (s.sent.map V.int).length (((s.sent.map V.int).length:Int) - back)=some (Sd.plc s.sent back):=by
    unfold ixN Sd.plc
    rw [hle,if_pos (by omega),if_pos (by omega)]
  have hk:atI (s.sent.map V.int) (((s.sent.map V.int).length:Int) - back)=some (.int (Sd.known s.sent back)):=by
    unfold atI
    rw [hix]
    show (s.sent.map V.int)[Sd.plc s.sent back]?=_
    rw [List.getElem?_map,List.getElem?_eq_getElem hp]
    unfold Sd.known
    rw [List.getD_eq_getElem?_getD,List.getElem?_eq_getElem hp]
    rfl
  have hkb:0≤Sd.known s.sent back∧Sd.known s.sent back≤1000000:=by
    unfold Sd.known
    rw [List.getD_eq_getElem?_getD,List.getElem?_eq_getElem hp]
    exact ok.all _ (List.getElem_mem hp)
  by_cases k1:m < 0
  · walk_at "rd"
    exact e (by omega)
  by_cases k2:Sd.known s.sent back < m
  · walk_at "rd"
    exact e (by omega)
  walk_at "rd"
  simp only [upd_upd]
  have a1:=a.putS (xs:=s.sent.set (Sd.plc s.sent back) m)
  rw [List.map_set] at a1
  exact q ⟨by omega,by omega,by omega,by omega⟩ _ (But.trans But.putS But.put) (a1.put (s':=Sd.repS s back m) rfl)
end
end Sp

set_option Elab.async false
set_option linter.all false
set_option maxRecDepth 100000
set_option maxHeartbeats 4000000


namespace Sp
open PySem L2
section
variable {P:Program}{w:World}{K:PySem.W.Frag}{mg:Str→Option Value}{base:Heap}{CP CD CB:Addr}
theorem RT.app {H:Hp}{rs:List Addr}{ps:List Rule}{r:Addr}{q:Rule} (t:RT K H rs ps) (h:SqT K H r (r2 q)):RT K H (rs ++ [r]) (ps ++ [q]):=by
  have hl:=t.len
  refine ⟨by simp [hl],fun i r' e=>?_⟩
  by_cases hi:i < rs.length
  · rw [List.getElem?_append_left hi] at e
    rw [List.getD_eq_getElem?_getD,List.getElem?_append_left (by omega),← List.getD_eq_getElem?_getD]
    exact t.at_ i r' e
  · have hlt:i < (rs ++ [r]).length:=(List.getElem?_eq_some_iff.mp e).1
    have hi':i=rs.length:=by rw [List.length_append] at hlt;simp at hlt;omega
    subst hi'
    rw [List.getElem?_append_right (Nat.le_refl _),Nat.sub_self] at e
    have e':r=r':=by simpa using e
    subst e'
    rw [List.getD_eq_getElem?_getD,hl,List.getElem?_append_right (Nat.le_refl _),Nat.sub_self]
    exact h
theorem RT.nil {H:Hp}:RT K H [] []:=⟨rfl,fun i r e=>by simp at e⟩
theorem al_app {ps:List Rule}{q:Rule} (h:∀ i,i < ps.length→RGood1 (ps.getD i (0,0))) (hq:RGood1 q):∀ i,i < (ps ++ [q]).length→RGood1 ((ps ++ [q]).getD i (0,0)):=fun i hi=>by
  by_cases h1:i < ps.length
  · rw [List.getD_eq_getElem?_getD,List.getElem?_append_left h1,← List.getD_eq_getElem?_getD]
    exact h i h1
  · have hi':i=ps.length:=by rw [List.length_append] at hi;simp at hi;omega
    subst hi'
    rw [List.getD_eq_getElem?_getD,List.getElem?_append_right (Nat.le_refl _),Nat.sub_self]
    exact hq
/-! ### the rules that a law draws -/
noncomputable def spLRules (K:PySem.W.Frag):Sp:=fun vs H Q _=>∃ (a:Addr) (ns:List Int) (k:Int),vs = [.ref a,.int k]∧SqL K H a (ns.map V.int)∧ns.length≤63∧0≤k ∧
  ∀ (l:Addr) (rs:List Addr) (rules:List Rule) (H':Hp),Same H H'→H l=none→H' l=some (.lst (rs.map V.ref))→RT K H' rs rules→RGood rules→rules.length≤3→Q (.ref l) H'
theorem scLrules:FnScope ["_law_script", "_law_k", "_law_found", "_law_j", "_law_number", "_law_window"] ["_law_script", "_law_k"] (defScope s_Lrules):=⟨rfl,rfl,rfl,by decide +kernel,rfl,by decide +kernel,by decide +kernel⟩
theorem ok_Lrules {f f1:Addr}{fd fd1:FuncData} (F:Fun K "_law_rules" "_law_rules" s_Lrules f fd) (Z:ZL mg) (B_Lmix:Fn P w K mg base CX0 2 "_law_mix" ["_law_script", "_law_k"] (spMix K) f1 fd1):FnOk P w K mg base CX0 3 f fd ["_law_script", "_law_k"] (spLRules K):=by
  refine F.ok scLrules (fun vs H Q E h=>?_) (fun cdv A outer s H vs Q E hr h=>?_)
  · obtain ⟨a,ns,k,rfl,_⟩:=h
    rfl
  obtain ⟨a,ns,k,rfl,hS,h63,k0,q⟩:=h
  have b1:=mixv_nn ns k
  refine ⟨_,%[%[(2),_,_,_,_,scLrules.nd,rfl,(Or.inl rfl),%[s!"n"|23],s!"g",s!"f"|12],%[(@ps_for _ _ _ _ _ _ _ _ PassesOwn.never rfl (@pi_range1 _ _ _ _ _ _ rfl Z.range %[%[op_add,s!"i",%[op_mod,%[B_Lmix.ok,s!"h",rfl,B_Lmix.m,B_Lmix.kp,B_Lmix.b,.nil,pass0,%[s!"0",%[s!"1",s!"n",s!"g"|0],s!"g"|0],s!"d",s!"g",rfl|1],s!"i"|3]|3],s!"n",s!"g"|0] s!"g") (@pg_name _ _ (3) _ scLrules.nd rfl (Or.inl rfl) s!"f") %[%[(4),_,_,_,_,scLrules.nd,rfl,(Or.inl rfl),%[B_Lmix.ok,s!"h",rfl,B_Lmix.m,B_Lmix.kp,B_Lmix.b,.nil,pass0,%[s!"0",%[%[op_add,%[op_add,s!"1",s!"i"|3],s!"3"|3],s!"n",s!"g"|0],s!"g"|0],s!"d",s!"g",rfl|1],s!"g",s!"f"|12],%[%[(5),_,_,_,_,scLrules.nd,rfl,(Or.inl rfl),(@pe_menu _ _ _ _ _ _ _ %[s!"i",%[s!"i",%[s!"i",%[s!"i",%[s!"i",%[s!"i",%[s!"i",s!"n",s!"g"|0],s!"g"|0],s!"g"|0],s!"g"|0],s!"g"|0],s!"g"|0],s!"g"|0] %[op_mod,s!"4",s!"i"|3] s!"g"),s!"g",s!"f"|12],%[%[%[PySem.F.plainAttrs_list,PySem.F.slot_list_append,PySem.F.type_list_append,mt_append,s!"2",%[(@pe_tup _ _ _ _ _ %[s!"5",%[(@pe_menu _ _ _ _ _ _ _ %[s!"i",%[s!"i",%[s!"i",%[s!"i",%[s!"i",%[s!"i",%[s!"i",%[s!"i",s!"n",s!"g"|0],s!"g"|0],s!"g"|0],s!"g"|0],s!"g"|0],s!"g"|0],s!"g"|0],s!"g"|0] %[op_mod,%[op_fdiv,s!"4",s!"i"|3],s!"i"|3] s!"g"),s!"n",s!"g"|0],s!"g"|0]),s!"n",s!"g"|0],s!"g",s!"g",s!"g",s!"g",s!"g"|20],s!"g"|18]|4]|2]|2] s!"g"),%[%[s!"2"|11]|4]|2]|2],?_⟩
  walk_at "rd"
  intro l n1
  walk_at "rd"
  refine for_range (fun i σ H3=>∃ (v3 v4 v5:Option V) (rs:List Addr) (rules:List Rule),σ = [some (.ref a),some (.int k),some (.ref l),v3,v4,v5]∧Same H H3∧H3 l=some (.lst (rs.map V.ref))∧RT K H3 rs rules∧rules.length=i∧∀ j,j < rules.length→RGood1 (rules.getD j (0,0))) ?_ ?_ ?_
  · exact ⟨none,none,none,[],[],rfl,Same.new n1 _,upd_same,RT.nil,rfl,fun j hj=>absurd hj (by simp)⟩
  · rintro i σ H3 hi ⟨v3,v4,v5,rs,rules,rfl,s3,hl,hT,hlen,hal⟩
    have hrl:=hT.len
    have hi3:i < 3:=by omega
    have b2:=mixv_nn ns (k + 1 + (0 + i))
    walk_at "rd"
    rename_i H4 s4
    intro win hw
    have hwin:1≤win∧win≤1000:=by
      have hw:win ∈ [1,2,3,5,8,20,1000]:=hw
      simp only [List.mem_cons,List.not_mem_nil,or_false] at hw
      omega
    walk_at "rd"
    rename_i H5 s5
    intro m hm
    have hmo:0≤m∧m≤1000000:=by
      have hm:m ∈ [0,1,2,4,9,30,100,1000000]:=hm
      simp only [List.mem_cons,List.not_mem_nil,or_false] at hm
      omega
    walk_at "rd"
    intro tp n5
    walk_at "rd"
    have s6:=((s3.trans s4).trans s5).trans (Same.new n5 (.tup [.int win,.int m]))
    refine ⟨_,_,_,rs ++ [tp],rules ++ [(win,m)],rfl,s6.mut n1,?_,?_,by simp;omega,al_app hal ⟨hwin,hmo⟩⟩
    · rw [upd_same,List.map_append];rfl
    · refine RT.upd (u:=.lst (rs.map V.ref)) ?_ (at_new n5 (s5 _ _ (s4 _ _ hl))) True.intro
      exact (((hT.same s4).same s5).same (Same.new n5 _)).app (SqT.of upd_same)
  · rintro σ H3 ⟨v3,v4,v5,rs,rules,rfl,s3,hl,hT,hlen,hal⟩
    walk_at "rd"
    exact q l rs rules H3 s3 n1 hl hT ⟨by omega,hal⟩ (by omega)
/-! ### the lock, the dose, the hold that a law draws -/
noncomputable def sLo (ns:List Int) (k:Int):Int:=[0,1,3,7,1000000].getD (mixv ns k % 5).toNat 0
noncomputable def sDs (ns:List Int) (k:Int):Int:=[0,1,5,30,1000000].getD (mixv ns k / 5 % 5).toNat 0
noncomputable def sHd (ns:List Int) (k:Int):Int:=[0,1,6,50,1000000].getD (mixv ns k / 25 % 5).toNat 0
noncomputable def spSett (K:PySem.W.Frag):Sp:=fun vs H Q _=>∃ (a:Addr) (ns:List Int) (k:Int),vs = [.ref a,.int k]∧SqL K H a (ns.map V.int)∧ns.length≤63∧0≤k ∧
  ∀ (t:Addr) (H':Hp),Same H H'→H t=none→H' t=some (.tup [.int (sLo ns k),.int (sDs ns k),.int (sHd ns k)])→(0≤sLo ns k∧sLo ns k≤1000000)→(0≤sDs ns k∧sDs ns k≤1000000)→(0≤sHd ns k∧sHd ns k≤1000000)→Q (.ref t) H'
theorem get5 {a b c d i:Int} (h0:0≤i) (h1:i < 5) (ha:0≤a∧a≤1000000) (hb:0≤b∧b≤1000000) (hc:0≤c∧c≤1000000) (hd:0≤d∧d≤1000000):0≤[0,a,b,c,d].getD i.toNat 0∧[0,a,b,c,d].getD i.toNat 0≤1000000:=by
  rcases (by omega:i=0 ∨ i=1 ∨ i=2 ∨ i=3 ∨ i=4) with e | e | e | e | e <;> subst e
  · exact ⟨Int.le_refl 0,(show (0:Int)≤1000000 by decide)⟩
  · exact ha
  · exact hb
  · exact hc
  · exact hd
theorem scLsetting:FnScope ["_law_script", "_law_k", "_law_number", "_law_lock", "_law_dose"] ["_law_script", "_law_k"] (defScope s_Lsetting):=⟨rfl,rfl,rfl,by decide +kernel,rfl,by decide +kernel,by decide +kernel⟩
theorem ok_Lsetting {f f1:Addr}{fd fd1:FuncData} (F:Fun K "_law_setting" "_law_setting" s_Lsetting f fd) (B_Lmix:Fn P w K mg base CX0 2 "_law_mix" ["_law_script", "_law_k"] (spMix K) f1 fd1):FnOk P w K mg base CX0 3 f fd ["_law_script", "_law_k"] (spSett K):=by
  refine F.ok scLsetting (fun vs H Q E h=>?_) (fun cdv A outer s H vs Q E hr h=>?_)
  · obtain ⟨a,ns,k,rfl,_⟩:=h
    rfl
  obtain ⟨a,ns,k,rfl,hS,h63,k0,q⟩:=h
  have b1:=mixv_nn ns k
  refine ⟨_,%[%[(2),_,_,_,_,scLsetting.nd,rfl,(Or.inl rfl),%[B_Lmix.ok,s!"h",rfl,B_Lmix.m,B_Lmix.kp,B_Lmix.b,.nil,pass0,%[s!"0",%[s!"1",s!"n",s!"g"|0],s!"g"|0],s!"d",s!"g",rfl|1],s!"g",s!"f"|12],%[%[(3),_,_,_,_,scLsetting.nd,rfl,(Or.inl rfl),(@pe_menuD _ _ _ _ _ _ _ %[s!"i",%[s!"i",%[s!"i",%[s!"i",%[s!"i",s!"n",s!"g"|0],s!"g"|0],s!"g"|0],s!"g"|0],s!"g"|0] %[op_mod,s!"2",s!"i"|3] s!"g"),s!"g",s!"f"|12],%[%[(4),_,_,_,_,scLsetting.nd,rfl,(Or.inl rfl),(@pe_menuD _ _ _ _ _ _ _ %[s!"i",%[s!"i",%[s!"i",%[s!"i",%[s!"i",s!"n",s!"g"|0],s!"g"|0],s!"g"|0],s!"g"|0],s!"g"|0] %[op_mod,%[op_fdiv,s!"2",s!"i"|3],s!"i"|3] s!"g"),s!"g",s!"f"|12],%[%[(@pe_tup _ _ _ _ _ %[s!"3",%[s!"4",%[(@pe_menuD _ _ _ _ _ _ _ %[s!"i",%[s!"i",%[s!"i",%[s!"i",%[s!"i",s!"n",s!"g"|0],s!"g"|0],s!"g"|0],s!"g"|0],s!"g"|0] %[op_mod,%[op_fdiv,s!"2",s!"i"|3],s!"i"|3] s!"g"),s!"n",s!"g"|0],s!"g"|0],s!"g"|0])|11]|4]|2]|2]|2],?_⟩
  have h1:=get5 (a:=1) (b:=3) (c:=7) (d:=1000000) (i:=mixv ns k % 5) (by omega) (by omega) s!"d" s!"d" s!"d" s!"d"
  have h2:=get5 (a:=1) (b:=5) (c:=30) (d:=1000000) (i:=mixv ns k / 5 % 5) (by omega) (by omega) s!"d" s!"d" s!"d" s!"d"
  have h3:=get5 (a:=1) (b:=6) (c:=50) (d:=1000000) (i:=mixv ns k / 25 % 5) (by omega) (by omega) s!"d" s!"d" s!"d" s!"d"
  walk_at "rd"
  rename_i H2 s2 H3 s3 H4 s4
  intro t n
  have s5:=(s2.trans s3).trans s4
  exact q t _ (s5.trans (Same.new n _)) (s5.free n) upd_same h1 h2 h3
end
end Sp

set_option Elab.async false
set_option linter.all false
set_option maxRecDepth 100000
set_option maxHeartbeats 4000000


namespace Sp
open PySem L2
section
variable {P:Program}{w:World}{K:PySem.W.Frag}{mg:Str→Option Value}{base:Heap}{CP CD CB:Addr}
noncomputable def wdS:Sd.Wd→Str
  | .tick => "tick"
  | .press => "press"
  | .fill => "fill"
  | .report => "report"
  | .stop => "stop"
  | .start => "start"
theorem wd_of {v:V} (h:v ∈ [V.str "tick",V.str "tick",V.str "tick",V.str "tick",V.str "press",V.str "fill",V.str "report",V.str "report",V.str "stop",V.str "start",V.str "start"]):∃ d,v = .str (wdS d):=by
  simp only [List.mem_cons,List.not_mem_nil,or_false] at h
  rcases h with h | h | h | h | h | h | h | h | h | h | h
  · exact ⟨.tick,h⟩
  · exact ⟨.tick,h⟩
  · exact ⟨.tick,h⟩
  · exact ⟨.tick,h⟩
  · exact ⟨.press,h⟩
  · exact ⟨.fill,h⟩
  · exact ⟨.report,h⟩
  · exact ⟨.report,h⟩
  · exact ⟨.stop,h⟩
  · exact ⟨.start,h⟩
  · exact ⟨.start,h⟩
noncomputable def spDeed (K:PySem.W.Frag):Sp:=fun vs H Q _=>∃ (a:Addr) (ns:List Int) (k:Int),vs = [.ref a,.int k]∧SqL K H a (ns.map V.int)∧ns.length≤63∧0≤k ∧
  ∀ (t:Addr) (d:Sd.Wd) (back m:Int) (H':Hp),Same H H'→H t=none→H' t=some (.tup [.str (wdS d),.int back,.int m])→(-1≤back∧back≤30)→(-1≤m∧m≤1000001)→Q (.ref t) H'
theorem scLdeed:FnScope ["_law_script", "_law_k", "_law_number", "_law_word", "_law_many"] ["_law_script", "_law_k"] (defScope s_Ldeed):=⟨rfl,rfl,rfl,by decide +kernel,rfl,by decide +kernel,by decide +kernel⟩
theorem ok_Ldeed {f f1:Addr}{fd fd1:FuncData} (F:Fun K "_law_deed" "_law_deed" s_Ldeed f fd) (B_Lmix:Fn P w K mg base CX0 2 "_law_mix" ["_law_script", "_law_k"] (spMix K) f1 fd1):FnOk P w K mg base CX0 3 f fd ["_law_script", "_law_k"] (spDeed K):=by
  refine F.ok scLdeed (fun vs H Q E h=>?_) (fun cdv A outer s H vs Q E hr h=>?_)
  · obtain ⟨a,ns,k,rfl,_⟩:=h
    rfl
  obtain ⟨a,ns,k,rfl,hS,h63,k0,q⟩:=h
  have b1:=mixv_nn ns k
  refine ⟨_,%[%[(2),_,_,_,_,scLdeed.nd,rfl,(Or.inl rfl),%[B_Lmix.ok,s!"h",rfl,B_Lmix.m,B_Lmix.kp,B_Lmix.b,.nil,pass0,%[s!"0",%[s!"1",s!"n",s!"g"|0],s!"g"|0],s!"d",s!"g",rfl|1],s!"g",s!"f"|12],%[%[(3),_,_,_,_,scLdeed.nd,rfl,(Or.inl rfl),(@pe_menuV _ _ _ _ _ _ _ %[s!"s",%[s!"s",%[s!"s",%[s!"s",%[s!"s",%[s!"s",%[s!"s",%[s!"s",%[s!"s",%[s!"s",%[s!"s",s!"n",s!"g"|0],s!"g"|0],s!"g"|0],s!"g"|0],s!"g"|0],s!"g"|0],s!"g"|0],s!"g"|0],s!"g"|0],s!"g"|0],s!"g"|0] %[op_mod,s!"2",s!"i"|3] s!"g"),s!"g",s!"f"|12],%[%[(4),_,_,_,_,scLdeed.nd,rfl,(Or.inl rfl),(@pe_menu _ _ _ _ _ _ _ %[s!"i",%[s!"i",%[s!"i",%[s!"i",%[s!"i",%[%[op_mod,%[op_fdiv,s!"2",s!"i"|3],s!"i"|3],%[(@pe_un _ _ _ _ _ _ un_neg s!"i"),s!"n",s!"g"|0],s!"g"|0],s!"g"|0],s!"g"|0],s!"g"|0],s!"g"|0],s!"g"|0] %[op_mod,%[op_fdiv,s!"2",s!"i"|3],s!"i"|3] s!"g"),s!"g",s!"f"|12],%[(@ps_cut _ _ _ %[(PW.pt (@pw_and _ _ _ _ _ _ _ %[op_eq,s!"3",s!"s",(nomark _)|9] (@pw_and1 _ _ _ _ %[op_eq,%[op_mod,%[op_fdiv,s!"2",s!"i"|3],s!"i"|3],s!"i",(nomark _)|9]))),%[%[(4),_,_,_,_,scLdeed.nd,rfl,(Or.inl rfl),s!"i",s!"g",s!"f"|12]|4],s!"z"|10]),%[%[(@pe_tup _ _ _ _ _ %[s!"3",%[(@pe_menu _ _ _ _ _ _ _ %[s!"i",%[s!"i",%[s!"i",%[s!"i",%[s!"i",%[s!"i",%[(@pe_un _ _ _ _ _ _ un_neg s!"i"),%[s!"i",s!"n",s!"g"|0],s!"g"|0],s!"g"|0],s!"g"|0],s!"g"|0],s!"g"|0],s!"g"|0],s!"g"|0] %[op_mod,%[op_fdiv,s!"2",s!"i"|3],s!"i"|3] s!"g"),%[s!"4",s!"n",s!"g"|0],s!"g"|0],s!"g"|0])|11]|4]|2]|2]|2]|2],?_⟩
  walk_at "rd"
  rename_i H2 s2
  intro v hv
  obtain ⟨d,rfl⟩:=wd_of hv
  walk_at "rd"
  rename_i H3 s3
  intro m hm
  have hmb:-1≤m∧m≤1000000:=by
    have hm:m ∈ [0,1,3,10,1000000,mixv ns k / 11 % 60,-1]:=hm
    simp only [List.mem_cons,List.not_mem_nil,or_false] at hm
    omega
  walk_at "rd"
  refine ⟨fun σ' H'=>H'=H3∧∃ m',σ' = [some (.ref a),some (.int k),some (.int (mixv ns k)),some (.str (wdS d)),some (.int m')]∧-1≤m'∧m'≤1000001,?_,?_⟩
  · by_cases hd:d = .fill
    · subst hd
      by_cases h8:mixv ns k / 50 % 8=0
      · walk_at "rd"
        exact Int.le_refl _
      · walk_at "rd"
        omega
    · have hw:wdS d ≠ "fill":=by
        cases d <;> first | exact absurd rfl hd | (show Str.ofString _ ≠ Str.ofString _;decide)
      have hw':decide (V.str (wdS d)=V.str (Str.ofString "fill"))=false:=decide_eq_false fun z=>hw (V.str.inj z)
      walk_at "rd"
      rw [hw']
      walk_at "rd"
      omega
  rintro σ' H' ⟨rfl,m',rfl,hm'⟩
  walk_at "rd"
  rename_i H4 s4
  intro back hbk
  have hbb:-1≤back∧back≤30:=by
    have hbk:back ∈ [1,1,2,3,5,0,-1,30]:=hbk
    simp only [List.mem_cons,List.not_mem_nil,or_false] at hbk
    omega
  walk_at "rd"
  intro t n
  have s5:=(s2.trans s3).trans s4
  exact q t d back m' _ (s5.trans (Same.new n _)) (s5.free n) upd_same hbb hm'
end
end Sp

set_option Elab.async false
set_option linter.all false
set_option maxRecDepth 100000
set_option maxHeartbeats 4000000


namespace Sp
open PySem L2
section
variable {P:Program}{w:World}{K:PySem.W.Frag}{mg:Str→Option Value}{base:Heap}
theorem Tups.app {H:Hp}{rs:List Addr}{ps:List Part}{r:Addr}{q:Part} (t:Tups K H rs ps) (h:SqT K H r (q3 q)):Tups K H (rs ++ [r]) (ps ++ [q]):=by
  have hl:=t.len
  refine ⟨by simp [hl],fun i r' e=>?_⟩
  by_cases hi:i < rs.length
  · rw [List.getElem?_append_left hi] at e
    rw [List.getD_eq_getElem?_getD,List.getElem?_append_left (by omega),← List.getD_eq_getElem?_getD]
    exact t.at_ i r' e
  · have hlt:i < (rs ++ [r]).length:=(List.getElem?_eq_some_iff.mp e).1
    have hi':i=rs.length:=by rw [List.length_append] at hlt;simp at hlt;omega
    subst hi'
    rw [List.getElem?_append_right (Nat.le_refl _),Nat.sub_self] at e
    have e':r=r':=by simpa using e
    subst e'
    rw [List.getD_eq_getElem?_getD,hl,List.getElem?_append_right (Nat.le_refl _),Nat.sub_self]
    exact h
theorem Tups.nil {H:Hp}:Tups K H [] []:=⟨rfl,fun i r e=>by simp at e⟩
theorem getD_app {ps:List Part}{q:Part}{i:Nat}:(ps ++ [q]).getD i DayM.nil3=if i < ps.length then ps.getD i DayM.nil3 else if i=ps.length then q else DayM.nil3:=by
  rw [List.getD_eq_getElem?_getD]
  by_cases hi:i < ps.length
  · rw [if_pos hi,List.getElem?_append_left hi,← List.getD_eq_getElem?_getD]
  · rw [if_neg hi,List.getElem?_append_right (by omega)]
    by_cases he:i=ps.length
    · rw [if_pos he,he,Nat.sub_self];rfl
    · rw [if_neg he,List.getElem?_eq_none (by simp;omega)];rfl
theorem ok_app {ticks:Int}{ps:List Part}{q:Part} (o:DayM.Ok ticks ps) (h1:(ps.getD (ps.length - 1) DayM.nil3).1 < q.1) (h2:q.1 < ticks) (h3:0≤q.2.1∧q.2.1≤1000000) (h4:1≤q.2.2∧q.2.2≤1000000):DayM.Ok ticks (ps ++ [q]):=by
  have hn:=o.ne
  refine ⟨o.t1,o.t2,by simp,?_,fun i hi=>?_,fun i hi=>?_⟩
  · rw [getD_app,if_pos hn];exact o.z
  · rw [List.length_append] at hi
    simp at hi
    rw [getD_app,getD_app,if_pos (by omega)]
    by_cases he:i + 1 < ps.length
    · rw [if_pos he];exact o.up i he
    · rw [if_neg he,if_pos (by omega)]
      have e:i=ps.length - 1:=by omega
      rw [e];exact h1
  · rw [List.length_append] at hi
    simp at hi
    rw [getD_app]
    by_cases he:i < ps.length
    · rw [if_pos he];exact o.b i he
    · rw [if_neg he,if_pos (by omega)];omega
theorem ok_one {ticks m p:Int} (h:1≤ticks∧ticks≤1000000) (h3:0≤m∧m≤1000000) (h4:1≤p∧p≤1000000):DayM.Ok ticks [(0,m,p)]:=by
  refine ⟨h.1,h.2,by simp,rfl,fun i hi=>by simp at hi,fun i hi=>?_⟩
  have e:i=0:=by simp at hi;exact hi
  subst e
  show (0:Int) < ticks∧0≤m∧m≤1000000∧1≤p∧p≤1000000
  omega
theorem atLast {rs:List Addr} (h:0 < rs.length):∃ r,rs[rs.length - 1]?=some r∧atI (rs.map V.ref) (-1)=some (.ref r):=by
  have e:=List.getElem?_eq_getElem (show rs.length - 1 < rs.length by omega)
  refine ⟨_,e,?_⟩
  unfold atI ixN
  rw [if_neg s!"d",List.length_map,if_pos (by omega)]
  show (rs.map V.ref)[(-1 + (rs.length:Int)).toNat]?=_
  rw [show (-1 + (rs.length:Int)).toNat=rs.length - 1 by omega,List.getElem?_map,e]
  rfl
structure Drawn (K:PySem.W.Frag) (H:Hp) (t l:Addr) (rs:List Addr) (ticks:Int) (ps:List Part):Prop where
  tp:H t=some (.tup [.int ticks,.ref l])
  ls:H l=some (.lst (rs.map V.ref))
  ts:Tups K H rs ps
  ok:DayM.Ok ticks ps
  le:ps.length≤4
noncomputable def spDay (K:PySem.W.Frag):Sp:=fun vs H Q _=>∃ (a:Addr) (ns:List Int) (k:Int),vs = [.ref a,.int k]∧SqL K H a (ns.map V.int)∧ns.length≤63∧0≤k ∧
  ∀ (t l:Addr) (rs:List Addr) (ticks:Int) (ps:List Part) (H':Hp),Same H H'→H l=none→H t=none→Drawn K H' t l rs ticks ps→Q (.ref t) H'
theorem scLday:FnScope ["_law_script", "_law_k", "_law_ticks", "_law_parts", "_law_j", "_law_number", "_law_at", "_law_many"] ["_law_script", "_law_k"] (defScope s_Lday):=⟨rfl,rfl,rfl,by decide +kernel,rfl,by decide +kernel,by decide +kernel⟩
theorem ok_Lday {f f1:Addr}{fd fd1:FuncData} (F:Fun K "_law_day" "_law_day" s_Lday f fd) (Z:ZL mg) (B_Lmix:Fn P w K mg base CX0 2 "_law_mix" ["_law_script", "_law_k"] (spMix K) f1 fd1):FnOk P w K mg base CX0 3 f fd ["_law_script", "_law_k"] (spDay K):=by
  refine F.ok scLday (fun vs H Q E h=>?_) (fun cdv A outer s H vs Q E hr h=>?_)
  · obtain ⟨a,ns,k,rfl,_⟩:=h
    rfl
  obtain ⟨a,ns,k,rfl,hS,h63,k0,q⟩:=h
  have b1:=mixv_nn ns (k + 1)
  refine ⟨_,%[%[(2),_,_,_,_,scLday.nd,rfl,(Or.inl rfl),(@pe_menu _ _ _ _ _ _ _ %[s!"i",%[s!"i",%[s!"i",%[s!"i",%[s!"i",%[s!"i",%[s!"i",s!"n",s!"g"|0],s!"g"|0],s!"g"|0],s!"g"|0],s!"g"|0],s!"g"|0],s!"g"|0] %[op_mod,%[B_Lmix.ok,s!"h",rfl,B_Lmix.m,B_Lmix.kp,B_Lmix.b,.nil,pass0,%[s!"0",%[s!"1",s!"n",s!"g"|0],s!"g"|0],s!"d",s!"g",rfl|1],s!"i"|3] s!"g"),s!"g",s!"f"|12],%[%[(3),_,_,_,_,scLday.nd,rfl,(Or.inl rfl),%[s!"n"|23],s!"g",s!"f"|12],%[(@ps_for _ _ _ _ _ _ _ _ PassesOwn.never rfl (@pi_range1 _ _ _ _ _ _ rfl Z.range %[%[op_add,s!"i",%[op_mod,%[B_Lmix.ok,s!"h",rfl,B_Lmix.m,B_Lmix.kp,B_Lmix.b,.nil,pass0,%[s!"0",%[%[op_add,s!"1",s!"i"|3],s!"n",s!"g"|0],s!"g"|0],s!"d",s!"g",rfl|1],s!"i"|3]|3],s!"n",s!"g"|0] s!"g") (@pg_name _ _ (4) _ scLday.nd rfl (Or.inl rfl) s!"f") %[%[(5),_,_,_,_,scLday.nd,rfl,(Or.inl rfl),%[B_Lmix.ok,s!"h",rfl,B_Lmix.m,B_Lmix.kp,B_Lmix.b,.nil,pass0,%[s!"0",%[%[op_add,%[op_add,s!"1",s!"i"|3],s!"4"|3],s!"n",s!"g"|0],s!"g"|0],s!"d",s!"g",rfl|1],s!"g",s!"f"|12],%[%[(6),_,_,_,_,scLday.nd,rfl,(Or.inl rfl),s!"i",s!"g",s!"f"|12],%[(@ps_cut _ _ _ %[(@pt_truth _ _ _ s!"3" (fun _=>rfl)),%[%[(6),_,_,_,_,scLday.nd,rfl,(Or.inl rfl),%[op_add,%[op_add,%[ix_tup,%[ix_list,s!"3",(@pe_un _ _ _ _ _ _ un_neg s!"i"),(fun _ _=>rfl)|8],s!"i",(fun _ _=>rfl)|8],s!"i"|3],%[op_mod,%[op_fdiv,s!"5",s!"i"|3],s!"i"|3]|3],s!"g",s!"f"|12]|4],s!"z"|10]),%[%[%[op_lt,s!"6",s!"2",(nomark _)|9],%[%[(7),_,_,_,_,scLday.nd,rfl,(Or.inl rfl),(@pe_menu _ _ _ _ _ _ _ %[s!"i",%[s!"i",%[s!"i",%[s!"i",%[s!"i",%[%[op_mod,%[op_fdiv,s!"5",s!"i"|3],s!"i"|3],s!"n",s!"g"|0],s!"g"|0],s!"g"|0],s!"g"|0],s!"g"|0],s!"g"|0] %[op_mod,s!"5",s!"i"|3] s!"g"),s!"g",s!"f"|12],%[%[%[PySem.F.plainAttrs_list,PySem.F.slot_list_append,PySem.F.type_list_append,mt_append,s!"3",%[(@pe_tup _ _ _ _ _ %[s!"6",%[s!"7",%[(@pe_menu _ _ _ _ _ _ _ %[s!"i",%[s!"i",%[s!"i",%[s!"i",%[s!"i",%[%[op_add,s!"i",%[op_mod,%[op_fdiv,s!"5",s!"i"|3],s!"i"|3]|3],s!"n",s!"g"|0],s!"g"|0],s!"g"|0],s!"g"|0],s!"g"|0],s!"g"|0] %[op_mod,%[op_fdiv,s!"5",s!"i"|3],s!"i"|3] s!"g"),s!"n",s!"g"|0],s!"g"|0],s!"g"|0]),s!"n",s!"g"|0],s!"g",s!"g",s!"g",s!"g",s!"g"|20],s!"g"|18]|4]|2],s!"z"|10]|4]|2]|2]|2] s!"g"),%[%[(@pe_tup _ _ _ _ _ %[s!"2",%[s!"3",s!"n",s!"g"|0],s!"g"|0])|11]|4]|2]|2]|2],?_⟩
  dsimp only [cxOf,Cx.nox]
  walk_at "rd"
  rename_i H2 s2
  intro ticks hm
  have htk:1≤ticks∧ticks≤1000000:=by
    have hm:ticks ∈ [1,2,5,10,24,60,1000000]:=hm
    simp only [List.mem_cons,List.not_mem_nil,or_false] at hm
    omega
  walk_at "rd"
  intro l n2
  walk_at "rd"
  refine for_range (fun i σ H3=>∃ (v4 v5 v6 v7:Option V) (rs:List Addr) (ps:List Part),σ = [some (.ref a),some (.int k),some (.int ticks),some (.ref l),v4,v5,v6,v7]∧Same H2 H3∧H3 l=some (.lst (rs.map V.ref))∧Tups K H3 rs ps∧ps.length≤i∧(ps = []∧i=0 ∨ DayM.Ok ticks ps)) ?_ ?_ ?_
  · exact ⟨none,none,none,none,[],[],rfl,Same.new n2 _,upd_same,Tups.nil,Nat.le_refl 0,.inl ⟨rfl,rfl⟩⟩
  · rintro i σ H3 hi ⟨v4,v5,v6,v7,rs,ps,rfl,s3,hl,hT,hlen,hps⟩
    have hrl:=hT.len
    have hi4:i < 4:=by omega
    have b2:=mixv_nn ns (k + 2 + (0 + i))
    walk_at "rd"
    refine ⟨fun σ' H'=>H'=H3∧∃ at_,σ' = [some (.ref a),some (.int k),some (.int ticks),some (.ref l),some (.int (0 + i)),some (.int (mixv ns (k + 2 + (0 + i)))),some (.int at_),v7]∧(ps = []∧at_=0 ∨ DayM.Ok ticks ps∧(ps.getD (ps.length - 1) DayM.nil3).1 < at_),?_,?_⟩
    · refine ⟨_,rfl,_,.inl ⟨_,SqL.of hl,rfl⟩,?_⟩
      rcases hps with ⟨rfl,h0⟩ | o
      · have:rs = []:=List.eq_nil_of_length_eq_zero hrl
        subst this
        refine iteF ?_
        exact ⟨rfl,0,rfl,.inl ⟨rfl,rfl⟩⟩
      · have hn:=o.ne
        obtain ⟨r,er,ar⟩:=atLast (rs:=rs) (by omega)
        have hTr:=hT.at_ _ r er
        have hne:(!(rs.map V.ref).isEmpty)=true:=by
          cases rs with
          | nil=>simp at hrl;omega
          | cons=>rfl
        rw [hne]
        refine iteT ?_
        walk_at "rd"
        refine .inr ⟨o,?_⟩
        rw [hrl]
        omega
    · rintro σ' H' ⟨rfl,at_,rfl,hat⟩
      walk_at "rd"
      refine it2 (fun hlt=>?_) (fun hlt=>?_)
      · walk_at "rd"
        rename_i H4 s4
        intro many hmm
        have hmany:0≤many∧many≤1000000:=by
          have hmm:many ∈ [0,1,2,7,1000000,mixv ns (k + 2 + (0 + i)) / 7 % 40]:=hmm
          simp only [List.mem_cons,List.not_mem_nil,or_false] at hmm
          omega
        walk_at "rd"
        rename_i H5 s5
        intro per hpp
        have hper:1≤per∧per≤1000000:=by
          have hpp:per ∈ [1,2,3,7,1000000,1 + mixv ns (k + 2 + (0 + i)) / 5 % 30]:=hpp
          simp only [List.mem_cons,List.not_mem_nil,or_false] at hpp
          omega
        walk_at "rd"
        intro p1 n5
        walk_at "rd"
        have s6:=(s3.trans (s4.trans s5)).trans (Same.new n5 (.tup [.int at_,.int many,.int per]))
        refine ⟨_,_,_,_,rs ++ [p1],ps ++ [(at_,many,per)],rfl,s6.mut n2,?_,?_,by simp;omega,.inr ?_⟩
        · rw [upd_same,List.map_append];rfl
        · refine Tups.upd (u:=.lst (rs.map V.ref)) ?_ (at_new n5 (s5 _ _ (s4 _ _ hl))) True.intro
          exact (((hT.same s4).same s5).same (Same.new n5 _)).app (SqT.of upd_same)
        · rcases hat with ⟨rfl,rfl⟩ | ⟨o,h1⟩
          · exact ok_one htk hmany hper
          · exact ok_app o h1 hlt hmany hper
      · walk_at "rd"
        refine ⟨_,_,_,_,rs,ps,rfl,s3,hl,hT,by omega,.inr ?_⟩
        rcases hat with ⟨rfl,rfl⟩ | ⟨o,h1⟩
        · omega
        · exact o
  · rintro σ H3 ⟨v4,v5,v6,v7,rs,ps,rfl,s3,hl,hT,hlen,hps⟩
    have o:DayM.Ok ticks ps:=by
      rcases hps with ⟨_,h0⟩ | o
      · omega
      · exact o
    walk_at "rd"
    intro t n3
    refine q t l rs ticks ps _ ((s2.trans s3).trans (Same.new n3 _)) (s2.free n2) ((s2.trans s3).free n3) ⟨upd_same,at_new n3 hl,hT.same (Same.new n3 _),o,by omega⟩
end
end Sp

set_option Elab.async false
set_option linter.all false
set_option maxRecDepth 100000
set_option maxHeartbeats 4000000


namespace Sp
open PySem L2
section
variable {P:Program}{w:World}{K:PySem.W.Frag}{mg:Str→Option Value}{base:Heap}
theorem argBest_last {bt:Nat→Nat→Bool}:∀ {n:Nat},(∀ i,i < n→bt (i + 1) i=true)→argBest bt n=n
  | 0,_=>rfl
  | n + 1,h=>by
    have ih:=argBest_last (bt:=bt) (n:=n) fun i hi=>h i (by omega)
    show (if bt (n + 1) (argBest bt n)=true then n + 1 else argBest bt n)=n + 1
    rw [ih,if_pos (h n (by omega))]
noncomputable def i3 (q:Part):List Int:=[q.1,q.2.1,q.2.2]
noncomputable def spLdue (K:PySem.W.Frag):Sp:=fun vs H Q _=>∃ (t l:Addr) (rs:List Addr) (ticks when:Int) (ps:List Part),vs = [.ref t,.int when]∧SqT K H t [.int ticks,.ref l]∧SqL K H l (rs.map V.ref)∧Tups K H rs ps∧DayM.Ok ticks ps∧ps.length≤100∧0≤when ∧
  ∀ H',Same H H'→Q (.int (DayM.due ticks ps when)) H'
theorem scLdue:FnScope ["_law_day_here", "_law_when", "_law_here", "_law_part", "_law_many"] ["_law_day_here", "_law_when"] (defScope s_Ldue):=⟨rfl,rfl,rfl,by decide +kernel,rfl,by decide +kernel,by decide +kernel⟩
theorem ok_Ldue {f:Addr}{fd:FuncData} (F:Fun K "_law_due" "_law_due" s_Ldue f fd) (Z:ZL mg):FnOk P w K mg base CX0 1 f fd ["_law_day_here", "_law_when"] (spLdue K):=by
  refine F.ok scLdue (fun vs H Q E h=>?_) (fun cdv A outer s H vs Q E hr h=>?_)
  · obtain ⟨t,l,rs,ticks,when,ps,rfl,_⟩:=h
    rfl
  obtain ⟨t,l,rs,ticks,when,ps,rfl,hd,hS,hT,o,h100,h0,q⟩:=h
  have hu:=hu_of hr
  have hlen:=hT.len
  have t1:=o.t1
  have m0:=Int.emod_nonneg when (show ticks ≠ 0 by omega)
  have pl:=DayM.plc_is o m0
  have hlt:=pl.lt
  have hle:=pl.le
  have hb:=o.b _ hlt
  refine ⟨_,%[%[(2),_,_,_,_,scLdue.nd,rfl,(Or.inr rfl),%[op_mod,s!"1",%[ix_tup,s!"0",s!"i",(fun _ _=>rfl)|8]|3],s!"g",s!"f"|12],%[%[(3),_,_,_,_,scLdue.nd,rfl,(Or.inl rfl),%[(call_maxT rfl hu),rfl,Z.max,s!"k",%[%[(defScope s_Ldue),_,(["_law_day_here", "_law_when", "_law_here", "_law_part", "_law_many"]),(["_law_day_here", "_law_when", "_law_here", "_law_part", "_law_many", "_law_one"]),(["_law_one"]),_,_,_,_,_,rfl,rfl,rfl,(.of s!"k"),(@pi_list _ _ _ _ %[ix_tup,s!"0",s!"i",(fun _ _=>rfl)|8]),takes_name,(fun _ _ _ _ _=>@pg_name _ _ (5) _ (show List.Nodup (["_law_day_here", "_law_when", "_law_here", "_law_part", "_law_many", "_law_one"]:List Str) by decide +kernel) rfl (Or.inl rfl) s!"f"),(fun _ _ _ _ _=>@pif_one _ _ _ %[op_le,%[(ix_tupK (K:=K) rfl),s!"5",s!"i",(fun _ _=>rfl)|8],s!"2",(nomark _)|9]),(fun _ _ _ _ _=>s!"5"),s!"g"|22],s!"n",s!"g"|0],s!"d",s!"d",s!"g",rfl|6],s!"g",s!"f"|12],%[%[(4),_,_,_,_,scLdue.nd,rfl,(Or.inl rfl),%[op_sub,s!"2",%[ix_tup,s!"3",s!"i",(fun _ _=>rfl)|8]|3],s!"g",s!"f"|12],%[%[%[op_sub,%[op_fdiv,%[op_mul,%[op_add,s!"4",s!"i"|3],%[ix_tup,s!"3",s!"i",(fun _ _=>rfl)|8]|3],%[ix_tup,s!"3",s!"i",(fun _ _=>rfl)|8]|3],%[op_fdiv,%[op_mul,s!"4",%[ix_tup,s!"3",s!"i",(fun _ _=>rfl)|8]|3],%[ix_tup,s!"3",s!"i",(fun _ _=>rfl)|8]|3]|3]|11]|4]|2]|2]|2],?_⟩
  walk_at "rd"
  intro acc n1
  refine comp_list (xs:=rs.map V.ref) (fun i ys H2=>ys=(rs.take (min i (DayM.plc ps (when % ticks) + 1))).map V.ref∧Same H H2∧H2 acc=some (.lst ys)) ?_ ?_ ?_ ?_
  · exact ⟨by simp,Same.new n1 _,upd_same⟩
  · rintro i ys H2 _ ⟨_,s2,_⟩
    exact s2.seq hS
  · rintro i x ys H2 hi hx ⟨rfl,s2,hacc⟩
    obtain ⟨r,rfl,er,hlr⟩:=getRef hx
    have hTr:=hT.at_ i r er
    walk_at "rd"
    by_cases hip:i≤DayM.plc ps (when % ticks)
    · have hat:(ps.getD i DayM.nil3).1≤when % ticks:=by
        rcases Nat.lt_or_ge i (DayM.plc ps (when % ticks)) with z | z
        · have:=o.lt z hlt
          omega
        · have e:i=DayM.plc ps (when % ticks):=by omega
          rw [e];exact hle
      walk_at "rd"
      refine ⟨small1000 (by rw [List.length_map,List.length_take];omega),cstep hi ⟨?_,s2.mut n1,upd_same⟩⟩
      rw [show min (i + 1) (DayM.plc ps (when % ticks) + 1)=i + 1 by omega,show min i (DayM.plc ps (when % ticks) + 1)=i by omega,List.take_succ,er,List.map_append]
      rfl
    · have hat:¬ (ps.getD i DayM.nil3).1≤when % ticks:=by
        have h1:=pl.nx (by omega)
        rcases Nat.lt_or_ge (DayM.plc ps (when % ticks) + 1) i with z | z
        · have:=o.lt z (by omega)
          omega
        · have e:i=DayM.plc ps (when % ticks) + 1:=by omega
          rw [e];omega
      walk_at "rd"
      refine cstep hi ⟨?_,s2,hacc⟩
      rw [show min (i + 1) (DayM.plc ps (when % ticks) + 1)=min i (DayM.plc ps (when % ticks) + 1) by omega]
  · rintro ys H2 ⟨rfl,s2,hacc⟩
    rw [List.length_map,show min rs.length (DayM.plc ps (when % ticks) + 1)=DayM.plc ps (when % ticks) + 1 by omega] at hacc
    have hlk:(rs.take (DayM.plc ps (when % ticks) + 1)).length=DayM.plc ps (when % ticks) + 1:=by rw [List.length_take];omega
    refine ⟨acc,rs.take (DayM.plc ps (when % ticks) + 1),(ps.take (DayM.plc ps (when % ticks) + 1)).map i3,rfl,SqL.of hacc,by rw [List.length_map,List.length_take,List.length_take];omega,by omega,fun i r e=>?_,fun r e=>?_⟩
    · have hi:i < DayM.plc ps (when % ticks) + 1:=by
        have:=(List.getElem?_eq_some_iff.mp e).1
        omega
      rw [List.getElem?_take_of_lt hi] at e
      have g:((ps.take (DayM.plc ps (when % ticks) + 1)).map i3).getD i []=i3 (ps.getD i DayM.nil3):=by
        rw [List.getD_eq_getElem?_getD,List.getElem?_map,List.getElem?_take_of_lt hi,List.getD_eq_getElem?_getD,List.getElem?_eq_getElem (by omega)]
        rfl
      rw [g]
      exact s2.tup (hT.at_ i r e)
    · have ab:argBest (fun i j=>gtL (((ps.take (DayM.plc ps (when % ticks) + 1)).map i3).getD i []) (((ps.take (DayM.plc ps (when % ticks) + 1)).map i3).getD j [])) ((rs.take (DayM.plc ps (when % ticks) + 1)).length - 1)=DayM.plc ps (when % ticks):=by
        rw [hlk,Nat.add_sub_cancel]
        refine argBest_last fun i hi=>?_
        have g:∀ j,j < DayM.plc ps (when % ticks) + 1→((ps.take (DayM.plc ps (when % ticks) + 1)).map i3).getD j []=i3 (ps.getD j DayM.nil3):=fun j hj=>by
          rw [List.getD_eq_getElem?_getD,List.getElem?_map,List.getElem?_take_of_lt hj,List.getD_eq_getElem?_getD,List.getElem?_eq_getElem (by omega)]
          rfl
        rw [g _ (by omega),g _ (by omega)]
        have hup:=o.up i (by omega)
        show (if (ps.getD (i + 1) DayM.nil3).1=(ps.getD i DayM.nil3).1 then _ else decide ((ps.getD (i + 1) DayM.nil3).1 > (ps.getD i DayM.nil3).1))=true
        rw [if_neg (by omega)]
        exact decide_eq_true (by omega)
      rw [ab,List.getElem?_take_of_lt (by omega)] at e
      have hTr:=hT.at_ _ r e
      walk_at "rd"
      have q:=q H2 s2
      unfold DayM.due DayM.dw at q
      rw [show when % ticks + 1 - (ps.getD (DayM.plc ps (when % ticks)) DayM.nil3).1=when % ticks - (ps.getD (DayM.plc ps (when % ticks)) DayM.nil3).1 + 1 by omega,Int.mul_comm (ps.getD (DayM.plc ps (when % ticks)) DayM.nil3).2.1,Int.mul_comm (ps.getD (DayM.plc ps (when % ticks)) DayM.nil3).2.1] at q
      exact q
end
end Sp

set_option Elab.async false
set_option linter.all false
set_option maxRecDepth 100000
set_option maxHeartbeats 4000000


namespace Sp
open PySem L2
structure WF where
  day:V
  rules:V
  lock:V
  dose:V
  hold:V
  now:V
  content:V
  waiting:V
  asked:V
  missed:V
  total:V
  free:V
  running:V
  sent:V
noncomputable def worldK (r:WF):List (Key × V):=[(Sum.inr "day",r.day),(Sum.inr "rules",r.rules),(Sum.inr "lock",r.lock),(Sum.inr "dose",r.dose),(Sum.inr "hold",r.hold),(Sum.inr "now",r.now),(Sum.inr "content",r.content),(Sum.inr "waiting",r.waiting),(Sum.inr "asked",r.asked),(Sum.inr "missed",r.missed),(Sum.inr "total",r.total),(Sum.inr "free",r.free),(Sum.inr "running",r.running),(Sum.inr "sent",r.sent)]
theorem few14 {r:WF}:(worldK r).length < sizeLine:=by rw [sizeLine_eq];show 14 < _;decide
theorem W_day:Itm worldK "day" (·.day) (fun r y=>{ r with day:=y }):=⟨fun r=>rfl,fun r y=>rfl,fun r=>few14⟩
theorem W_rules:Itm worldK "rules" (·.rules) (fun r y=>{ r with rules:=y }):=⟨fun r=>rfl,fun r y=>rfl,fun r=>few14⟩
theorem W_lock:Itm worldK "lock" (·.lock) (fun r y=>{ r with lock:=y }):=⟨fun r=>rfl,fun r y=>rfl,fun r=>few14⟩
theorem W_dose:Itm worldK "dose" (·.dose) (fun r y=>{ r with dose:=y }):=⟨fun r=>rfl,fun r y=>rfl,fun r=>few14⟩
theorem W_hold:Itm worldK "hold" (·.hold) (fun r y=>{ r with hold:=y }):=⟨fun r=>rfl,fun r y=>rfl,fun r=>few14⟩
theorem W_now:Itm worldK "now" (·.now) (fun r y=>{ r with now:=y }):=⟨fun r=>rfl,fun r y=>rfl,fun r=>few14⟩
theorem W_content:Itm worldK "content" (·.content) (fun r y=>{ r with content:=y }):=⟨fun r=>rfl,fun r y=>rfl,fun r=>few14⟩
theorem W_waiting:Itm worldK "waiting" (·.waiting) (fun r y=>{ r with waiting:=y }):=⟨fun r=>rfl,fun r y=>rfl,fun r=>few14⟩
theorem W_asked:Itm worldK "asked" (·.asked) (fun r y=>{ r with asked:=y }):=⟨fun r=>rfl,fun r y=>rfl,fun r=>few14⟩
theorem W_missed:Itm worldK "missed" (·.missed) (fun r y=>{ r with missed:=y }):=⟨fun r=>rfl,fun r y=>rfl,fun r=>few14⟩
theorem W_total:Itm worldK "total" (·.total) (fun r y=>{ r with total:=y }):=⟨fun r=>rfl,fun r y=>rfl,fun r=>few14⟩
theorem W_free:Itm worldK "free" (·.free) (fun r y=>{ r with free:=y }):=⟨fun r=>rfl,fun r y=>rfl,fun r=>few14⟩
theorem W_running:Itm worldK "running" (·.running) (fun r y=>{ r with running:=y }):=⟨fun r=>rfl,fun r y=>rfl,fun r=>few14⟩
theorem W_sent:Itm worldK "sent" (·.sent) (fun r y=>{ r with sent:=y }):=⟨fun r=>rfl,fun r y=>rfl,fun r=>few14⟩
noncomputable def wfOf (g:Cf) (w:Sd.S) (dt rl sn:Addr):WF:=⟨.ref dt,.ref rl,.int g.lock,.int g.dose,.int g.hold,.int w.now,.int w.con,.int w.wai,.int w.ask,.int w.mis,.int w.tot,.int w.fre,.bl w.run,.ref sn⟩
noncomputable def wordsW:List Str:=["content", "waiting", "asked", "missed", "total", "free"]
noncomputable def newK (v1 v2:V) (lo ds hd:Int) (i:Nat):List (Key × V):=([(Sum.inr "day",v1),(Sum.inr "rules",v2),(Sum.inr "lock",.int lo),(Sum.inr "dose",.int ds),(Sum.inr "hold",.int hd),(Sum.inr "now",.int 0)]:List (Key × V)) ++ (wordsW.take i).map fun x=>((Sum.inr x,V.int 0):Key × V)
theorem newK_put {v1 v2:V}{lo ds hd:Int}:∀ {i:Nat}{x:V},(wordsW.map V.str)[i]?=some x→∃ z:Str,x=kV (Sum.inr z)∧putK (newK v1 v2 lo ds hd i) (Sum.inr z:Key) (.int 0)=newK v1 v2 lo ds hd (i + 1)
  | 0,x,e=>⟨"content",(Option.some.inj e).symm,rfl⟩
  | 1,x,e=>⟨"waiting",(Option.some.inj e).symm,rfl⟩
  | 2,x,e=>⟨"asked",(Option.some.inj e).symm,rfl⟩
  | 3,x,e=>⟨"missed",(Option.some.inj e).symm,rfl⟩
  | 4,x,e=>⟨"total",(Option.some.inj e).symm,rfl⟩
  | 5,x,e=>⟨"free",(Option.some.inj e).symm,rfl⟩
  | i + 6,x,e=>by cases e
theorem newK_few {v1 v2:V}{lo ds hd:Int}{i:Nat}:(newK v1 v2 lo ds hd i).length < sizeLine:=by
  have h1:(wordsW.take i).length≤6:=by rw [List.length_take];show min i 6≤6;omega
  have h2:sizeLine=_:=sizeLine_eq
  unfold newK
  rw [List.length_append,List.length_map]
  show 6 + _ < _
  omega
section
variable {P:Program}{w:World}{K:PySem.W.Frag}{mg:Str→Option Value}{base:Heap}{CP CD CB:Addr}
noncomputable def spNew (K:PySem.W.Frag):Sp:=fun vs H Q _=>∃ (dt rl st:Addr) (g:Cf),vs = [.ref dt,.ref rl,.ref st]∧SqT K H st [.int g.lock,.int g.dose,.int g.hold] ∧
  ∀ wd sn H',Same H H'→H wd=none→H sn=none→H' wd=some (.dK (worldK (wfOf g s0 dt rl sn)))→H' sn=some (.lst [])→Q (.ref wd) H'
theorem scLnew:FnScope ["_law_day_here", "_law_rules_here", "_law_setting_here", "_law_world", "_law_word"] ["_law_day_here", "_law_rules_here", "_law_setting_here"] (defScope s_Lnew):=⟨rfl,rfl,rfl,by decide +kernel,rfl,by decide +kernel,by decide +kernel⟩
theorem ok_Lnew {f:Addr}{fd:FuncData} (F:Fun K "_law_new" "_law_new" s_Lnew f fd):FnOk P w K mg base CX0 1 f fd ["_law_day_here", "_law_rules_here", "_law_setting_here"] (spNew K):=by
  refine F.ok scLnew (fun vs H Q E h=>?_) (fun cdv A outer s H vs Q E hr h=>?_)
  · obtain ⟨dt,rl,st,g,rfl,_⟩:=h
    rfl
  obtain ⟨dt,rl,st,g,rfl,hs,q⟩:=h
  have hu:=hu_of hr
  refine ⟨_,%[%[(3),_,_,_,_,scLnew.nd,rfl,(Or.inl rfl),(@pe_disp _ _ _ _ _ (@pps_cons _ _ _ _ _ _ _ _ _ s!"s" s!"0" (@pps_cons _ _ _ _ _ _ _ _ _ s!"s" s!"1" (@pps_cons _ _ _ _ _ _ _ _ _ s!"s" %[ix_tup,s!"2",s!"i",(fun _ _=>rfl)|8] (@pps_cons _ _ _ _ _ _ _ _ _ s!"s" %[ix_tup,s!"2",s!"i",(fun _ _=>rfl)|8] (@pps_cons _ _ _ _ _ _ _ _ _ s!"s" %[ix_tup,s!"2",s!"i",(fun _ _=>rfl)|8] (@pps_cons _ _ _ _ _ _ _ _ _ s!"s" s!"i" (@pps_nil _ _))))))) rfl rfl (List.cons_ne_nil _ _) (Nat.le_of_ble_eq_true rfl)),s!"g",s!"f"|12],%[(@ps_for _ _ _ _ _ _ _ _ PassesOwn.never rfl (@pi_list _ _ _ _ %[%[s!"s",%[s!"s",%[s!"s",%[s!"s",%[s!"s",%[s!"s",s!"n",s!"g"|0],s!"g"|0],s!"g"|0],s!"g"|0],s!"g"|0],s!"g"|0]|23]) (@pg_name _ _ (4) _ scLnew.nd rfl (Or.inl rfl) s!"f") %[(@ps_dput _ _ _ _ _ _ _ _ _ hu s!"3" s!"4" s!"i" rfl)|4] s!"g"),%[(@ps_dputS _ _ _ _ _ _ _ _ _ _ hu s!"3" (@pe_bl _ _ _ _) s!"g"),%[(@ps_dputS _ _ _ _ _ _ _ _ _ _ hu s!"3" %[s!"n"|23] s!"g"),%[%[s!"3"|11]|4]|2]|2]|2]|2],?_⟩
  have a0:atI [V.int g.lock,V.int g.dose,V.int g.hold] 0=some (.int g.lock):=rfl
  have a1:atI [V.int g.lock,V.int g.dose,V.int g.hold] 1=some (.int g.dose):=rfl
  have a2:atI [V.int g.lock,V.int g.dose,V.int g.hold] 2=some (.int g.hold):=rfl
  walk_at "rd"
  intro wd nw
  walk_at "rd"
  refine And.intro (a:=(upd H wd (.dK [])) wd=some (.dK [])) upd_same ?_
  refine ⟨newK (.ref dt) (.ref rl) g.lock g.dose g.hold 0,rfl,(show 6≤15 by decide),?_⟩
  rw [show mergeK [] (newK (.ref dt) (.ref rl) g.lock g.dose g.hold 0)=newK (.ref dt) (.ref rl) g.lock g.dose g.hold 0 from rfl,upd_upd]
  walk_at "rd"
  intro lp np
  have nlw:wd ≠ lp:=ne_of_none upd_same np
  have nlw':=nlw.symm
  have nlp:H lp=none:=by rw [upd_ne nlw'] at np;exact np
  walk_at "rd"
  refine for_list (xs:=wordsW.map V.str) (fun i σ H3=>∃ v4,σ = [some (.ref dt),some (.ref rl),some (.ref st),some (.ref wd),v4]∧Same H H3∧H3 wd=some (.dK (newK (.ref dt) (.ref rl) g.lock g.dose g.hold i))∧H3 lp=some (.lst (wordsW.map V.str))) ?_ ?_ ?_ ?_
  · exact ⟨none,rfl,((Same.new nw _).mut nlp),at_ne nlw upd_same,upd_same⟩
  · rintro i σ H3 hi ⟨v4,rfl,s3,hw,hl⟩
    exact SqL.of hl
  · rintro i x σ H3 hx ⟨v4,rfl,s3,hw,hl⟩
    obtain ⟨z,rfl,ez⟩:=newK_put (v1:=.ref dt) (v2:=.ref rl) (lo:=g.lock) (ds:=g.dose) (hd:=g.hold) hx
    walk_at "rd"
    refine ⟨wd,_,rfl,DPut.k (k:=Sum.inr z) hw newK_few,?_⟩
    rw [ez]
    exact ⟨_,rfl,s3.mut nw,upd_same,at_ne nlw' hl⟩
  · rintro σ H3 ⟨v4,rfl,s3,hw,hl⟩
    walk_at "rd"
    intro sn ns
    have nws:wd ≠ sn:=ne_of_none upd_same ns
    have nws':=nws.symm
    have ns3:H3 sn=none:=by rw [upd_ne nws'] at ns;exact ns
    walk_at "rd"
    refine q wd sn _ ((((s3.mut nw).trans (Same.new ns _)).mut nw)) nw (s3.free ns3) ?_ (at_ne nws' upd_same)
    rw [upd_same]
    rfl
end
end Sp

set_option Elab.async false
set_option linter.all false
set_option maxRecDepth 100000
set_option maxHeartbeats 4000000


namespace Sp
open PySem L2
section
variable {P:Program}{w:World}{K:PySem.W.Frag}{mg:Str→Option Value}{base:Heap}{CP CD CB:Addr}
/-! ### what two writers leave -/
theorem SqT.but {H H':Hp}{a p q:Addr}{u v:HO}{xs:List V} (h:SqT K H a xs) (ep:H p=some u) (hu:Mut (some u)) (eq:H q=some v) (hv:Mut (some v)) (b:But p q H H'):SqT K H' a xs:=by
  rcases h with h | h
  · refine .inl ?_
    rcases h with h | ⟨ob,h⟩
    · refine .inl (b _ _ (fun z=>?_) (fun z=>?_) h)
      · subst z;rw [ep] at h;cases h;exact hu
      · subst z;rw [eq] at h;cases h;exact hv
    · refine .inr ⟨ob,b _ _ (fun z=>?_) (fun z=>?_) h⟩
      · subst z;rw [ep] at h;cases h;exact hu
      · subst z;rw [eq] at h;cases h;exact hv
  · exact .inr h
theorem Tups.but {H H':Hp}{rs:List Addr}{ps:List Part}{p q:Addr}{u v:HO} (t:Tups K H rs ps) (ep:H p=some u) (hu:Mut (some u)) (eq:H q=some v) (hv:Mut (some v)) (b:But p q H H'):Tups K H' rs ps:=⟨t.len,fun i r z=>SqT.but (t.at_ i r z) ep hu eq hv b⟩
theorem RT.but {H H':Hp}{rs:List Addr}{ps:List Rule}{p q:Addr}{u v:HO} (t:RT K H rs ps) (ep:H p=some u) (hu:Mut (some u)) (eq:H q=some v) (hv:Mut (some v)) (b:But p q H H'):RT K H' rs ps:=⟨t.len,fun i r z=>SqT.but (t.at_ i r z) ep hu eq hv b⟩
theorem PumpAt.but {H H':Hp}{p dx dy rl sn:Addr}{rs:List Addr}{g:Cf}{s:Sd.S}{x y:Addr}{u v:HO} (a:PumpAt K CP CD H p dx dy rl sn rs g s) (ex:H x=some u) (hu:Mut (some u)) (ey:H y=some v) (hv:Mut (some v)) (b:But x y H H')
    (np:p ≠ x∧p ≠ y) (nd:dy ≠ x∧dy ≠ y) (nr:rl ≠ x∧rl ≠ y) (ns:sn ≠ x∧sn ≠ y):PumpAt K CP CD H' p dx dy rl sn rs g s:=by
  obtain ⟨dx',pt,sm,rs',h1,⟨h2,h3⟩,h4⟩:=a.day.ex
  exact ⟨b _ _ np.1 np.2 a.ob,⟨dx',pt,sm,rs',b _ _ nd.1 nd.2 h1,⟨SqT.but h2 ex hu ey hv b,h3.but ex hu ey hv b⟩,SqT.but h4 ex hu ey hv b⟩,b _ _ nr.1 nr.2 a.rls,a.rt.but ex hu ey hv b,b _ _ ns.1 ns.2 a.se,a.npd,a.nrs⟩
structure WorldAt (K:PySem.W.Frag) (H:Hp) (wd dt dl rl sn:Addr) (ds rs:List Addr) (g:Cf) (w:Sd.S):Prop where
  ob:H wd=some (.dK (worldK (wfOf g w dt rl sn)))
  dw:Drawn K H dt dl ds g.ticks g.ps
  rls:H rl=some (.lst (rs.map V.ref))
  rt:RT K H rs g.rules
  se:H sn=some (.lst (w.sent.map V.int))
  nd:sn ≠ dl
  nr:sn ≠ rl
theorem WorldAt.same {H H':Hp}{wd dt dl rl sn:Addr}{ds rs:List Addr}{g:Cf}{w:Sd.S} (a:WorldAt K H wd dt dl rl sn ds rs g w) (e:Same H H'):WorldAt K H' wd dt dl rl sn ds rs g w:=
  ⟨e _ _ a.ob,⟨e _ _ a.dw.tp,e _ _ a.dw.ls,a.dw.ts.same e,a.dw.ok,a.dw.le⟩,e _ _ a.rls,a.rt.same e,e _ _ a.se,a.nd,a.nr⟩
theorem WorldAt.but {H H':Hp}{wd dt dl rl sn:Addr}{ds rs:List Addr}{g:Cf}{w:Sd.S}{x y:Addr}{u v:HO} (a:WorldAt K H wd dt dl rl sn ds rs g w) (ex:H x=some u) (hu:Mut (some u)) (ey:H y=some v) (hv:Mut (some v)) (b:But x y H H')
    (nw:wd ≠ x∧wd ≠ y) (nd:dl ≠ x∧dl ≠ y) (nr:rl ≠ x∧rl ≠ y) (ns:sn ≠ x∧sn ≠ y):WorldAt K H' wd dt dl rl sn ds rs g w:=by
  have nt:dt ≠ x∧dt ≠ y:=⟨ne_of a.dw.tp ex (fun z=>by subst z;exact hu),ne_of a.dw.tp ey (fun z=>by subst z;exact hv)⟩
  exact ⟨b _ _ nw.1 nw.2 a.ob,⟨b _ _ nt.1 nt.2 a.dw.tp,b _ _ nd.1 nd.2 a.dw.ls,a.dw.ts.but ex hu ey hv b,a.dw.ok,a.dw.le⟩,b _ _ nr.1 nr.2 a.rls,a.rt.but ex hu ey hv b,b _ _ ns.1 ns.2 a.se,a.nd,a.nr⟩
structure Sep (rl sn dl wrl wsn:Addr):Prop where
  sd:sn ≠ dl
  sr:sn ≠ wrl
  ss:sn ≠ wsn
  rw_:rl ≠ wsn
structure Two (K:PySem.W.Frag) (CP CD:Addr) (H:Hp) (p dx dy rl sn wd dt dl wrl wsn:Addr) (ds rs:List Addr) (g:Cf) (s w:Sd.S):Prop where
  pa:PumpAt K CP CD H p dx dy rl sn rs g s
  wa:WorldAt K H wd dt dl wrl wsn ds rs g w
  sp:Sep rl sn dl wrl wsn
theorem Two.same {H H':Hp}{p dx dy rl sn wd dt dl wrl wsn:Addr}{ds rs:List Addr}{g:Cf}{s w:Sd.S} (t:Two K CP CD H p dx dy rl sn wd dt dl wrl wsn ds rs g s w) (e:Same H H'):Two K CP CD H' p dx dy rl sn wd dt dl wrl wsn ds rs g s w:=⟨t.pa.same e,t.wa.same e,t.sp⟩
theorem Two.pump {H H':Hp}{p dx dy rl sn wd dt dl wrl wsn:Addr}{ds rs:List Addr}{g:Cf}{s s' w:Sd.S} (t:Two K CP CD H p dx dy rl sn wd dt dl wrl wsn ds rs g s w) (b:But p sn H H') (a:PumpAt K CP CD H' p dx dy rl sn rs g s'):Two K CP CD H' p dx dy rl sn wd dt dl wrl wsn ds rs g s' w:=by
  have kp:=t.pa.ob
  have ks:=t.pa.se
  refine ⟨a,t.wa.but kp True.intro ks True.intro b ⟨?_,?_⟩ ⟨?_,t.sp.sd.symm⟩ ⟨?_,t.sp.sr.symm⟩ ⟨?_,t.sp.ss.symm⟩,t.sp⟩
  · exact ne_of t.wa.ob kp (by intro z;cases z)
  · exact ne_of t.wa.ob ks (by intro z;cases z)
  · exact ne_of t.wa.dw.ls kp (by intro z;cases z)
  · exact ne_of t.wa.rls kp (by intro z;cases z)
  · exact ne_of t.wa.se kp (by intro z;cases z)
theorem Two.other {H H':Hp}{p dx dy rl sn wd dt dl wrl wsn:Addr}{ds rs:List Addr}{g:Cf}{s w:Sd.S}{x:Addr}{xs:List V} (t:Two K CP CD H p dx dy rl sn wd dt dl wrl wsn ds rs g s w) (ex:H x=some (.lst xs)) (b:But x x H H') (n1:x ≠ rl) (n2:x ≠ sn) (n3:x ≠ dl) (n4:x ≠ wrl) (n5:x ≠ wsn):Two K CP CD H' p dx dy rl sn wd dt dl wrl wsn ds rs g s w:=by
  obtain ⟨dx',pt,sm,rs',h1,_,_⟩:=t.pa.day.ex
  have e1:p ≠ x:=ne_of t.pa.ob ex (by intro z;cases z)
  have e2:dy ≠ x:=ne_of h1 ex (by intro z;cases z)
  have e3:wd ≠ x:=ne_of t.wa.ob ex (by intro z;cases z)
  exact ⟨t.pa.but ex True.intro ex True.intro b ⟨e1,e1⟩ ⟨e2,e2⟩ ⟨n1.symm,n1.symm⟩ ⟨n2.symm,n2.symm⟩,t.wa.but ex True.intro ex True.intro b ⟨e3,e3⟩ ⟨n3.symm,n3.symm⟩ ⟨n4.symm,n4.symm⟩ ⟨n5.symm,n5.symm⟩,t.sp⟩
theorem Two.world {H:Hp}{p dx dy rl sn wd dt dl wrl wsn:Addr}{ds rs:List Addr}{g:Cf}{s w w':Sd.S} (t:Two K CP CD H p dx dy rl sn wd dt dl wrl wsn ds rs g s w) (e:w'.sent=w.sent):Two K CP CD (upd H wd (.dK (worldK (wfOf g w' dt wrl wsn)))) p dx dy rl sn wd dt dl wrl wsn ds rs g s w':=by
  have kw:=t.wa.ob
  obtain ⟨dx',pt,sm,rs',h1,_,_⟩:=t.pa.day.ex
  have e1:p ≠ wd:=ne_of t.pa.ob kw (by intro z;cases z)
  have e2:dy ≠ wd:=ne_of h1 kw (by intro z;cases z)
  have e3:rl ≠ wd:=ne_of t.pa.rls kw (by intro z;cases z)
  have e4:sn ≠ wd:=ne_of t.pa.se kw (by intro z;cases z)
  have e5:wrl ≠ wd:=ne_of t.wa.rls kw (by intro z;cases z)
  have e6:wsn ≠ wd:=ne_of t.wa.se kw (by intro z;cases z)
  have e7:dl ≠ wd:=ne_of t.wa.dw.ls kw (by intro z;cases z)
  have e8:dt ≠ wd:=ne_of t.wa.dw.tp kw (by intro z;cases z)
  refine ⟨t.pa.but kw True.intro kw True.intro But.put ⟨e1,e1⟩ ⟨e2,e2⟩ ⟨e3,e3⟩ ⟨e4,e4⟩,?_,t.sp⟩
  exact ⟨upd_same,⟨at_ne e8 t.wa.dw.tp,at_ne e7 t.wa.dw.ls,t.wa.dw.ts.upd kw True.intro,t.wa.dw.ok,t.wa.dw.le⟩,at_ne e5 t.wa.rls,t.wa.rt.upd kw True.intro,at_ne e6 (by rw [e];exact t.wa.se),t.wa.nd,t.wa.nr⟩
theorem bdp_ok {ticks:Int}{ps:List Part} (o:DayM.Ok ticks ps):∀ z ∈ ps,BdP z:=fun z hz=>by
  obtain ⟨i,hi,e⟩:=List.getElem_of_mem hz
  have h1:=o.b i hi
  have h2:=o.nn hi
  have h3:=o.t2
  rw [List.getD_eq_getElem?_getD,List.getElem?_eq_getElem hi,e] at h1 h2
  have h1:z.1 < ticks∧0≤z.2.1∧z.2.1≤1000000∧1≤z.2.2∧z.2.2≤1000000:=h1
  have h2:0≤z.1:=h2
  unfold BdP Bd
  omega
theorem bdr_ok {rules:List Rule} (o:RGood rules):∀ r ∈ rules,Bd r.1∧Bd r.2:=fun z hz=>by
  obtain ⟨i,hi,e⟩:=List.getElem_of_mem hz
  have h1:=o.al i hi
  rw [List.getD_eq_getElem?_getD,List.getElem?_eq_getElem hi,e] at h1
  have h1:(1≤z.1∧z.1≤1000)∧(0≤z.2∧z.2≤1000000):=h1
  unfold Bd
  omega
theorem same_but {H H1 H2:Hp}{p q:Addr} (s:Same H H1) (b:But p q H1 H2) (np:H p=none) (nq:H q=none):Same H H2:=fun c o ec=>b c o (ne_of_none ec np) (ne_of_none ec nq) (s c o ec)
noncomputable def s1 (b:Bool):Sd.S:=if b then { s0 with run:=true,con:=1000 } else s0
structure Fresh4 (H:Hp) (p sn wd wsn:Addr):Prop where
  p:H p=none
  sn:H sn=none
  wd:H wd=none
  ws:H wsn=none
noncomputable def spLStart (K:PySem.W.Frag) (CP CD:Addr):Sp:=fun vs H Q _=>∃ (a:Addr) (ns:List Int),vs = [.ref a]∧SqL K H a (ns.map V.int)∧ns.length≤63 ∧
  ∀ tp p dx dy rl sn wd dt dl wrl wsn ds rs g b H',Same H H'→H tp=none→H' tp=some (.tup [.ref p,.ref wd])→g.Ok→(g.lock=sLo ns 12∧g.dose=sDs ns 12∧g.hold=sHd ns 12)→Fresh4 H p sn wd wsn→Two K CP CD H' p dx dy rl sn wd dt dl wrl wsn ds rs g (s1 b) (s1 b)→Q (.ref tp) H'
theorem scLstart:FnScope ["_law_script", "_law_day_here", "_law_rules_here", "_law_setting_here", "_law_pump", "_law_world"] ["_law_script"] (defScope s_Lstart):=⟨rfl,rfl,rfl,by decide +kernel,rfl,by decide +kernel,by decide +kernel⟩
theorem ok_Lstart {f f1 f2 f3 f4 f5 f6 f7 f8 f9:Addr}{fd fd1 fd2 fd3 fd4 fd5 fd6 fd7 fd8 fd9:FuncData} (F:Fun K "_law_start" "_law_start" s_Lstart f fd) (Z:ZL mg)
    (B_Lday:Fn P w K mg base CX0 3 "_law_day" ["_law_script", "_law_k"] (spDay K) f1 fd1) (B_Lrules:Fn P w K mg base CX0 3 "_law_rules" ["_law_script", "_law_k"] (spLRules K) f2 fd2) (B_Lsetting:Fn P w K mg base CX0 3 "_law_setting" ["_law_script", "_law_k"] (spSett K) f3 fd3)
    (B_Day:Mc P w K mg base (CXE P w) 4 "Day" CD ["self", "ticks", "parts"] (spDayI K CD CB) f4 fd4) (B_Pump:Mc P w K mg base (CXE P w) 3 "Pump" CP ["self", "day", "rules", "lock", "dose", "hold"] (spPumpI K CP CD CB) f5 fd5)
    (B_Lnew:Fn P w K mg base CX0 1 "_law_new" ["_law_day_here", "_law_rules_here", "_law_setting_here"] (spNew K) f6 fd6) (B_Lmix:Fn P w K mg base CX0 2 "_law_mix" ["_law_script", "_law_k"] (spMix K) f7 fd7) (B_start:Fn P w K mg base CX0 1 "start" ["pump"] (spStart K CP CD) f8 fd8)
    (B_fill:Fn P w K mg base (CXE P w) 2 "fill" ["pump", "many"] (spFill K CP CD CB) f9 fd9):FnOk P w K mg base CX0 6 f fd ["_law_script"] (spLStart K CP CD):=by
  refine F.ok scLstart (fun vs H Q E h=>?_) (fun cdv A outer s H vs Q E hr h=>?_)
  · obtain ⟨a,ns,rfl,_⟩:=h
    rfl
  obtain ⟨a,ns,rfl,hS,h63,q⟩:=h
  have hu:=hu_of hr
  refine ⟨_,%[%[(1),_,_,_,_,scLstart.nd,rfl,(Or.inl rfl),%[B_Lday.ok,s!"h",rfl,B_Lday.m,B_Lday.kp,B_Lday.b,.nil,pass0,%[s!"0",%[s!"i",s!"n",s!"g"|0],s!"g"|0],s!"d",s!"g",rfl|1],s!"g",s!"f"|12],%[%[(2),_,_,_,_,scLstart.nd,rfl,(Or.inl rfl),%[B_Lrules.ok,s!"h",rfl,B_Lrules.m,B_Lrules.kp,B_Lrules.b,.nil,pass0,%[s!"0",%[s!"i",s!"n",s!"g"|0],s!"g"|0],s!"d",s!"g",rfl|1],s!"g",s!"f"|12],%[%[(3),_,_,_,_,scLstart.nd,rfl,(Or.inl rfl),%[B_Lsetting.ok,s!"h",rfl,B_Lsetting.m,B_Lsetting.kp,B_Lsetting.b,.nil,pass0,%[s!"0",%[s!"i",s!"n",s!"g"|0],s!"g"|0],s!"d",s!"g",rfl|1],s!"g",s!"f"|12],%[%[(4),_,_,_,_,scLstart.nd,rfl,(Or.inl rfl),(@pe_make _ _ _ _ _ _ _ _ _ _ _ _ _ _ _ _ _ B_Pump.mkk B_Pump.ok s!"h" rfl B_Pump.m B_Pump.b .nil passF %[(@pe_make _ _ _ _ _ _ _ _ _ _ _ _ _ _ _ _ _ B_Day.mkk B_Day.ok s!"h" rfl B_Day.m B_Day.b .nil passF %[%[ix_tup,s!"1",s!"i",(fun _ _=>rfl)|8],%[%[call_list_of,rfl,Z.list,s!"k",%[%[ix_tup,s!"1",s!"i",(fun _ _=>rfl)|8],s!"n",s!"g"|0],s!"d",s!"d",s!"g",rfl|16],s!"n",s!"g"|0],s!"g"|0] s!"d" s!"g" rfl),%[%[call_list_of,rfl,Z.list,s!"k",%[s!"2",s!"n",s!"g"|0],s!"d",s!"d",s!"g",rfl|16],%[%[ix_tup,s!"3",s!"i",(fun _ _=>rfl)|8],%[%[ix_tup,s!"3",s!"i",(fun _ _=>rfl)|8],%[%[ix_tup,s!"3",s!"i",(fun _ _=>rfl)|8],s!"n",s!"g"|0],s!"g"|0],s!"g"|0],s!"g"|0],s!"g"|0] s!"d" s!"g" rfl),s!"g",s!"f"|12],%[%[(5),_,_,_,_,scLstart.nd,rfl,(Or.inl rfl),%[B_Lnew.ok,s!"h",rfl,B_Lnew.m,B_Lnew.kp,B_Lnew.b,.nil,pass0,%[s!"1",%[s!"2",%[s!"3",s!"n",s!"g"|0],s!"g"|0],s!"g"|0],s!"d",s!"g",rfl|1],s!"g",s!"f"|12],%[(@ps_cut _ _ _ %[%[op_gt,%[op_mod,%[B_Lmix.ok,s!"h",rfl,B_Lmix.m,B_Lmix.kp,B_Lmix.b,.nil,pass0,%[s!"0",%[s!"i",s!"n",s!"g"|0],s!"g"|0],s!"d",s!"g",rfl|1],s!"i"|3],s!"i",(nomark _)|9],%[%[%[B_start.ok,s!"h",rfl,B_start.m,B_start.kp,B_start.b,.nil,pass0,%[s!"4",s!"n",s!"g"|0],s!"d",s!"g",rfl|1],s!"g"|18],%[%[%[B_fill.ok,s!"h",rfl,B_fill.m,B_fill.kp,B_fill.b,.nil,passF,%[s!"4",%[s!"i",s!"n",s!"g"|0],s!"g"|0],s!"d",s!"g",rfl|1],s!"g"|18],%[%[W_running,hu,s!"5",(@pe_bl _ _ _ _),s!"g"|13],%[%[W_content,hu,s!"5",s!"i",s!"g"|13]|4]|2]|2]|2],s!"z"|10]),%[%[(@pe_tup _ _ _ _ _ %[s!"4",%[s!"5",s!"n",s!"g"|0],s!"g"|0])|11]|4]|2]|2]|2]|2]|2]|2],?_⟩
  dsimp only [cxOf,Cx.nox]
  walk_at "rd"
  intro dt dl ds ticks ps H1 s1 ndl ndt dw
  have hS1:=s1.seq hS
  walk_at "rd"
  intro wrl rs rules H2 s2 nrl hrl hT hRG hr3
  have hS2:=s2.seq hS1
  walk_at "rd"
  intro st H3 s3 nst hst b1 b2 b3
  obtain ⟨lo,elo⟩:∃ x,x=sLo ns 12:=⟨_,rfl⟩
  obtain ⟨dd,edd⟩:∃ x,x=sDs ns 12:=⟨_,rfl⟩
  obtain ⟨hd,ehd⟩:∃ x,x=sHd ns 12:=⟨_,rfl⟩
  rw [← elo,← edd,← ehd] at hst
  rw [← elo] at b1
  rw [← edd] at b2
  rw [← ehd] at b3
  have hS3:=s3.seq hS2
  have hdt:=s3 _ _ (s2 _ _ dw.tp)
  have hdl:=s3 _ _ (s2 _ _ dw.ls)
  walk_at "rd"
  intro la nla
  walk_at "rd"
  intro y dy ny ndy ney
  have sA:Same H3 (upd H3 la (.lst (ds.map V.ref))):=Same.new nla _
  have hla:(upd H3 la (.lst (ds.map V.ref))) la=some (.lst (ds.map V.ref)):=upd_same
  generalize upd H3 la (.lst (ds.map V.ref))=H4 at sA hla ny ndy ⊢
  have s5:Same H4 (upd (upd H4 dy (.own y)) y (.ins CD dy [])):=fun c o ec=>by
    rw [upd_ne (ne_of_none ec ny),upd_ne (ne_of_none ec ndy)]
    exact ec
  have og:=dw.ok
  have ot1:=og.t1
  have ot2:=og.t2
  have ole:=dw.le
  refine ⟨y,dy,ticks,la,ds,ps,rfl,upd_same,s5 _ _ hla,(((dw.ts.same s2).same s3).same sA).same s5,(by unfold Bd;omega),bdp_ok og,by omega,fun _ H5 kp D=>?_,fun no=>absurd og no⟩
  have s6:Same H3 H5:=sA.trans fun c o ec=>kp c o (ne_of_none ec ny) (s5 c o ec)
  have hrl5:=s6 _ _ (s3 _ _ hrl)
  have hst5:=s6 _ _ hst
  have a0:atI [V.int lo,V.int dd,V.int hd] 0=some (.int lo):=rfl
  have a1:atI [V.int lo,V.int dd,V.int hd] 1=some (.int dd):=rfl
  have a2:atI [V.int lo,V.int dd,V.int hd] 2=some (.int hd):=rfl
  walk_at "rd"
  intro lb nlb
  walk_at "rd"
  intro x dx nx ndx nex
  have sB:Same H5 (upd H5 lb (.lst (rs.map V.ref))):=Same.new nlb _
  have hlb:(upd H5 lb (.lst (rs.map V.ref))) lb=some (.lst (rs.map V.ref)):=upd_same
  generalize upd H5 lb (.lst (rs.map V.ref))=H6 at sB hlb nx ndx ⊢
  have s7:Same H6 (upd (upd H6 dx (.own x)) x (.ins CP dx [])):=fun c o ec=>by
    rw [upd_ne (ne_of_none ec nx),upd_ne (ne_of_none ec ndx)]
    exact ec
  obtain ⟨dz,pt,sm,rs',hy,_,_⟩:=id D
  have ok:(⟨ticks,ps,rules,lo,dd,hd⟩:Cf).Ok:=⟨og,hRG,b1,b2,b3⟩
  have s8:Same H3 H6:=s6.trans sB
  refine ⟨x,dx,y,lb,rs,⟨ticks,ps,rules,lo,dd,hd⟩,rfl,upd_same,(D.same sB).same s7,(ne_of_none (sB _ _ hy) nx).symm,s7 _ _ hlb,(((hT.same s3).same s8)).same s7,bdr_ok hRG,(show rules.length≤100 by omega),og,(by unfold Bd;show _ < lo∧lo < _;omega),(by unfold Bd;show _ < dd∧dd < _;omega),(by unfold Bd;show _ < hd∧hd < _;omega),fun _ rl sn H7 kp7 nrl nsn PA=>?_,fun no=>absurd ok no⟩
  have s9:Same H6 H7:=fun c o ec=>kp7 c o (ne_of_none ec nx) (s7 c o ec)
  have sH6:Same H H6:=((s1.trans s2).trans s3).trans s8
  have hst7:SqT K H7 st [.int lo,.int dd,.int hd]:=SqT.of (s9 _ _ (s8 _ _ hst))
  have hS7:=s9.seq (s8.seq hS3)
  have hdl6:=s8 _ _ hdl
  have hwl6:=s8 _ _ (s3 _ _ hrl)
  have nrl6:=s7.free nrl
  have nsn6:=s7.free nsn
  have b13:=mixv_nn ns 13
  walk_at "rd"
  obtain ⟨g,eg⟩:∃ g:Cf,g=⟨ticks,ps,rules,lo,dd,hd⟩:=⟨_,rfl⟩
  have hst7':SqT K H7 st [.int g.lock,.int g.dose,.int g.hold]:=by rw [eg];exact hst7
  have dw7:Drawn K H7 dt dl ds g.ticks g.ps:=by rw [eg];exact ⟨s9 _ _ (s8 _ _ hdt),s9 _ _ hdl6,(((dw.ts.same s2).same s3).same s8).same s9,og,ole⟩
  have hT7:RT K H7 rs g.rules:=by rw [eg];exact ((hT.same s3).same s8).same s9
  rw [← eg] at PA ok
  refine ⟨dt,wrl,st,g,rfl,hst7',fun wd ws H8 s10 nwd nws hwd hws=>?_⟩
  have nx0:=sH6.free nx
  have nsn0:=sH6.free nsn6
  have sH7:=sH6.trans s9
  have sH8:=sH7.trans s10
  have T:Two K CP CD H8 x dx y rl sn wd dt dl wrl ws ds rs g s0 s0:=⟨PA.same s10,⟨hwd,⟨s10 _ _ dw7.tp,s10 _ _ dw7.ls,dw7.ts.same s10,dw7.ok,dw7.le⟩,s10 _ _ (s9 _ _ hwl6),hT7.same s10,hws,(ne_of_none (s9 _ _ hdl6) nws).symm,(ne_of_none (s9 _ _ hwl6) nws).symm⟩,
    ⟨(ne_of_none hdl6 nsn6).symm,(ne_of_none hwl6 nsn6).symm,ne_of_none PA.se nws,ne_of_none PA.rls nws⟩⟩
  have F4:Fresh4 H x sn wd ws:=⟨nx0,nsn0,sH7.free nwd,sH7.free nws⟩
  have hS8:=s10.seq hS7
  clear hst7 hst7' hS7 hS3 hS2 hS1
  walk_at "rd"
  refine ⟨fun σ' H'=>∃ b,σ' = [some (.ref a),some (.ref dt),some (.ref wrl),some (.ref st),some (.ref x),some (.ref wd)]∧Same H H'∧Two K CP CD H' x dx y rl sn wd dt dl wrl ws ds rs g (Sp.s1 b) (Sp.s1 b),?_,?_⟩
  · by_cases h4:mixv ns 13 % 4 > 0
    · walk_at "rd"
      refine ⟨x,dx,y,rl,sn,rs,g,s0,rfl,T.pa,fun H9 b9 P9=>?_⟩
      have T9:=T.pump b9 P9
      walk_at "rd"
      refine ⟨x,dx,y,rl,sn,rs,g,_,1000,rfl,T9.pa,by decide,fun _ H10 b10 P10=>?_,fun no=>absurd s!"d" no⟩
      have T10:=T9.pump b10 P10
      have hw:=T10.wa.ob
      walk_at "rd"
      simp only [upd_upd]
      exact ⟨true,rfl,(same_but (same_but sH8 b9 nx0 nsn0) b10 nx0 nsn0).mut F4.wd,T10.world (w':=Sp.s1 true) rfl⟩
    · walk_at "rd"
      exact ⟨false,rfl,sH8,T⟩
  · rintro σ' H9 ⟨b,rfl,s9',T9⟩
    walk_at "rd"
    intro tp ntp
    exact q tp x dx y rl sn wd dt dl wrl ws ds rs g b _ (s9'.trans (Same.new ntp _)) (s9'.free ntp) upd_same ok (by rw [eg];exact ⟨elo,edd,ehd⟩) F4 (T9.same (Same.new ntp _))
end
end Sp

set_option Elab.async false
set_option linter.all false
set_option maxRecDepth 100000
set_option maxHeartbeats 4000000


namespace Sp
open PySem L2
section
variable {P:Program}{w:World}{K:PySem.W.Frag}{mg:Str→Option Value}{base:Heap}{CP CD CB CL CN CS CO:Addr}
structure EK (K:PySem.W.Frag) (CO CB CL CN CS C:Addr) (b1 b2 b3:Bool):Prop where
  x:ExcM K C CO
  e:ExcK K C
  i1:PySem.W.kitOne K (.ref C) (.ref CB)=some b1
  i2:PySem.W.kitOne K (.ref C) (.ref CL)=some b2
  i3:PySem.W.kitOne K (.ref C) (.ref CN)=some b3
  iv:PySem.W.kitOne K (.ref C) (.type "ValueError")=some true
  is:PySem.W.kitOne K (.ref C) (.ref CS)=some false
structure ZA (K:PySem.W.Frag) (mg:Str→Option Value) (CO CB CL CN CS:Addr):Prop where
  isinstance:mg "isinstance"=none
  ValueError:mg "ValueError"=none
  DoseError:mg "DoseError"=some (.ref CO)
  BadSetting:mg "BadSetting"=some (.ref CB)
  Locked:mg "Locked"=some (.ref CL)
  NotThere:mg "NotThere"=some (.ref CN)
  BadSave:mg "BadSave"=some (.ref CS)
  kDoseError:PySem.W.ktsIn K CO "BaseException"=true
  kB:EK K CO CB CL CN CS CB true false false
  kL:EK K CO CB CL CN CS CL false true false
  kN:EK K CO CB CL CN CS CN false false true
noncomputable def anV:Sd.An→V
  | .non=>.non
  | .num n=>.int n
  | .set=>.str "setting"
  | .lck=>.str "locked"
  | .thr=>.str "there"
inductive AnC (CB CL CN:Addr):Sd.An→Addr→Prop where
  | set:AnC CB CL CN .set CB
  | lck:AnC CB CL CN .lck CL
  | thr:AnC CB CL CN .thr CN
theorem AnC.all (Z:ZA K mg CO CB CL CN CS) {an:Sd.An}{C:Addr} (h:AnC CB CL CN an C):∃ (b1 b2 b3:Bool) (j:Nat),EK K CO CB CL CN CS C b1 b2 b3∧(([b1,b2,b3].count true:Nat):Int)=1∧[b1,b2,b3][j]?=some true∧(∀ i,i < j→[b1,b2,b3][i]?=some false)∧atI [V.str "setting",V.str "locked",V.str "there"] (j:Nat)=some (anV an):=by
  cases h with
  | set=>exact ⟨_,_,_,0,Z.kB,rfl,rfl,fun i hi=>absurd hi (by omega),rfl⟩
  | lck=>exact ⟨_,_,_,1,Z.kL,rfl,rfl,fun i hi=>by rw [show i=0 by omega];rfl,rfl⟩
  | thr =>
    refine ⟨_,_,_,2,Z.kN,rfl,rfl,fun i hi=>?_,rfl⟩
    rcases (by omega:i=0 ∨ i=1) with e | e <;> (subst e;rfl)
theorem repO_iff {g:Cf}{s:Sd.S} (k:Sd.Ok g.c s) (back m:Int):RepO s back m ↔ Sd.RepOk (Sd.longest g.c.rules) s.sent back m:=by
  unfold RepO Sd.RepOk
  have:=k.len
  constructor
  · rintro ⟨a,b,c,d⟩
    exact ⟨a,by omega,b,c,d⟩
  · rintro ⟨a,_,b,c,d⟩
    exact ⟨a,b,c,d⟩
inductive SpAsked (K:PySem.W.Frag) (CP CD:Addr) (vs:List V) (H:Hp) (Q:VK) (E:XK):Prop where
  | mk (p dx dy rl sn:Addr) (rs:List Addr) (g:Cf) (s:Sd.S) (d:Sd.Wd) (back m:Int) (c0:vs = [.ref p,.str (wdS d),.int back,.int m]) (c1:PumpAt K CP CD H p dx dy rl sn rs g s) (c2:g.Ok) (c3:Sd.Ok g.c s) (c4:(-1≤back∧back≤30)) (c5:(-1≤m∧m≤1000001)) (c6:∀ H',But p sn H H'→PumpAt K CP CD H' p dx dy rl sn rs g (Sd.deed g.c s d back m).2→Q (anV (Sd.deed g.c s d back m).1) H'):SpAsked K CP CD vs H Q E
noncomputable def spAsked (K:PySem.W.Frag) (CP CD:Addr):Sp:=fun vs H Q E=>SpAsked K CP CD vs H Q E
theorem scLasked:FnScope ["_law_pump", "_law_word", "_law_back", "_law_many", "_law_kept", "_law_found", "e", "_law_kinds"] ["_law_pump", "_law_word", "_law_back", "_law_many"] (defScope s_Lasked):=⟨rfl,rfl,rfl,by decide +kernel,rfl,by decide +kernel,by decide +kernel⟩
theorem ok_Lasked {f f1 f2 f3 f4 f5 f6:Addr}{fd fd1 fd2 fd3 fd4 fd5 fd6:FuncData} (F:Fun K "_law_asked" "_law_asked" s_Lasked f fd) (Z:ZA K mg CO CB CL CN CS)
    (B_tick:Fn P w K mg base CX0 4 "tick" ["pump"] (spTick K CP CD) f1 fd1) (B_report:Fn P w K mg base (CXE P w) 1 "report" ["pump", "back", "many"] (spReport K CP CD CN) f2 fd2)
    (B_fill:Fn P w K mg base (CXE P w) 2 "fill" ["pump", "many"] (spFill K CP CD CB) f3 fd3) (B_press:Fn P w K mg base (CXE P w) 1 "press" ["pump", "many"] (spPress K CP CD CL) f4 fd4)
    (B_start:Fn P w K mg base CX0 1 "start" ["pump"] (spStart K CP CD) f5 fd5) (B_stop:Fn P w K mg base CX0 1 "stop" ["pump"] (spStop K CP CD) f6 fd6):FnOk P w K mg base CX0 6 f fd ["_law_pump", "_law_word", "_law_back", "_law_many"] (spAsked K CP CD):=by
  refine F.ok scLasked (fun vs H Q E h=>?_) (fun cdv A outer s₀ H vs Q E hr h=>?_)
  · obtain ⟨p,dx,dy,rl,sn,rs,g,s,d,back,m,rfl,_⟩:=h
    rfl
  obtain ⟨p,dx,dy,rl,sn,rs,g,s,d,back,m,rfl,PA,og,ok,hb,hm,q⟩:=h
  refine ⟨_,%[%[(4),_,_,_,_,scLasked.nd,rfl,(Or.inl rfl),(@pe_non _ _ _),s!"g",s!"f"|12],%[%[(5),_,_,_,_,scLasked.nd,rfl,(Or.inl rfl),(@pe_non _ _ _),s!"g",s!"f"|12],%[(@ps_cut _ _ _ (@ps_try _ _ _ _ _ _ _ _ _ (6) _ _ _ (Own.wish own_cxOf _) (fun pn W E σ₀ hx=>%[%[%[op_eq,s!"1",s!"s",(nomark _)|9],%[%[(5),_,_,_,_,scLasked.nd,rfl,(Or.inl rfl),%[B_tick.ok,s!"h",rfl,B_tick.m,B_tick.kp,B_tick.b,.nil,pass0,%[s!"0",s!"n",s!"g"|0],s!"d",s!"g",rfl|1],s!"g",s!"f"|12]|4],%[%[%[op_eq,s!"1",s!"s",(nomark _)|9],%[%[(5),_,_,_,_,scLasked.nd,rfl,(Or.inl rfl),(@pe_callT _ _ _ _ _ _ _ _ _ _ _ _ _ _ _ _ _ B_report.ok s!"h" rfl B_report.m B_report.kp B_report.b .nil hx %[s!"0",%[s!"2",%[s!"3",s!"n",s!"g"|0],s!"g"|0],s!"g"|0] s!"d" s!"g" rfl),s!"g",s!"f"|12]|4],%[%[%[op_eq,s!"1",s!"s",(nomark _)|9],%[%[(5),_,_,_,_,scLasked.nd,rfl,(Or.inl rfl),(@pe_callT _ _ _ _ _ _ _ _ _ _ _ _ _ _ _ _ _ B_fill.ok s!"h" rfl B_fill.m B_fill.kp B_fill.b .nil hx %[s!"0",%[s!"3",s!"n",s!"g"|0],s!"g"|0] s!"d" s!"g" rfl),s!"g",s!"f"|12]|4],%[%[%[op_eq,s!"1",s!"s",(nomark _)|9],%[%[(5),_,_,_,_,scLasked.nd,rfl,(Or.inl rfl),(@pe_callT _ _ _ _ _ _ _ _ _ _ _ _ _ _ _ _ _ B_press.ok s!"h" rfl B_press.m B_press.kp B_press.b .nil hx %[s!"0",%[s!"3",s!"n",s!"g"|0],s!"g"|0] s!"d" s!"g" rfl),s!"g",s!"f"|12]|4],%[%[%[op_eq,s!"1",s!"s",(nomark _)|9],%[%[(5),_,_,_,_,scLasked.nd,rfl,(Or.inl rfl),%[B_start.ok,s!"h",rfl,B_start.m,B_start.kp,B_start.b,.nil,pass0,%[s!"0",s!"n",s!"g"|0],s!"d",s!"g",rfl|1],s!"g",s!"f"|12]|4],%[%[(5),_,_,_,_,scLasked.nd,rfl,(Or.inl rfl),%[B_stop.ok,s!"h",rfl,B_stop.m,B_stop.kp,B_stop.b,.nil,pass0,%[s!"0",s!"n",s!"g"|0],s!"d",s!"g",rfl|1],s!"g",s!"f"|12]|4]|10]|4]|10]|4]|10]|4]|10]|4]|10]|4]) Z.kDoseError rfl Z.DoseError scLasked.nd rfl rfl (fun A'=>%[%[(4),_,_,_,_,scLasked.nd,rfl,(Or.inl rfl),s!"6",s!"g",s!"f"|12]|4]) s!"d")),%[%[%[op_isN,s!"4",(@pe_non _ _ _),(nomark _)|9],%[%[s!"5"|11]|4],s!"z"|10],%[%[(7),_,_,_,_,scLasked.nd,rfl,(Or.inl rfl),%[%[%[call_isE,rfl,Z.isinstance,s!"k",%[s!"4",%[(@pe_glob _ _ (.ref _) _ _ rfl Z.BadSetting rfl s!"d"),s!"n",s!"g"|0],s!"g"|0],s!"d",s!"d",s!"g",rfl|6],%[%[call_isE,rfl,Z.isinstance,s!"k",%[s!"4",%[(@pe_glob _ _ (.ref _) _ _ rfl Z.Locked rfl s!"d"),s!"n",s!"g"|0],s!"g"|0],s!"d",s!"d",s!"g",rfl|6],%[%[call_isE,rfl,Z.isinstance,s!"k",%[s!"4",%[(@pe_glob _ _ (.ref _) _ _ rfl Z.NotThere rfl s!"d"),s!"n",s!"g"|0],s!"g"|0],s!"d",s!"d",s!"g",rfl|6],s!"n",s!"g"|0],s!"g"|0],s!"g"|0]|23],s!"g",s!"f"|12],%[%[(PW.pt %[%[op_ne,%[PySem.F.plainAttrs_list,PySem.F.slot_list_count,PySem.F.type_list_count,mt_count,s!"7",%[(@pe_bl _ _ _ _),s!"n",s!"g"|0],s!"g",s!"g",s!"g",s!"g",s!"g"|20],s!"i",(nomark _)|9],%[(@pt_not _ _ _ _ (@pt_val _ _ _ %[call_isEB,rfl,Z.isinstance,s!"k",%[s!"4",%[(@pe_bltn _ _ (.ty "ValueError") _ _ rfl Z.ValueError s!"k" rfl s!"d" s!"d"),s!"n",s!"g"|0],s!"g"|0],s!"d",s!"d",s!"g",rfl|6] s!"g")),(@pw_or1 _ _ _ _ (@pt_val _ _ _ %[call_isE,rfl,Z.isinstance,s!"k",%[s!"4",%[(@pe_glob _ _ (.ref _) _ _ rfl Z.BadSave rfl s!"d"),s!"n",s!"g"|0],s!"g"|0],s!"d",s!"d",s!"g",rfl|6] s!"g"))|21]|21]),%[%[s!"s"|11]|4],s!"z"|10],%[%[%[ix_list,%[%[s!"s",%[s!"s",%[s!"s",s!"n",s!"g"|0],s!"g"|0],s!"g"|0]|23],%[PySem.F.plainAttrs_list,PySem.F.slot_list_index,PySem.F.type_list_index,mt_index,s!"7",%[(@pe_bl _ _ _ _),s!"n",s!"g"|0],s!"g",s!"g",s!"g",s!"g",s!"g"|20],(fun _ _=>rfl)|8]|11]|4]|2]|2]|2]|2]|2]|2],?_⟩
  dsimp only [cxOf,Cx.nox]
  walk_at "rd"
  refine ⟨fun σ' H'=>But p sn H H'∧PumpAt K CP CD H' p dx dy rl sn rs g (Sd.deed g.c s d back m).2∧(
    σ' = [some (.ref p),some (.str (wdS d)),some (.int back),some (.int m),some .non,some (anV (Sd.deed g.c s d back m).1),none,none] ∨
    ∃ ea C,AnC CB CL CN (Sd.deed g.c s d back m).1 C∧H' ea=some (exO ea C none)∧σ' = [some (.ref p),some (.str (wdS d)),some (.int back),some (.int m),some (.ref ea),some .non,none,none]),?_,?_⟩
  · refine ⟨fun cls dd H'=>dd=none∧H'=H∧(Sd.deed g.c s d back m).2=s∧∃ C,cls = .ref C∧AnC CB CL CN (Sd.deed g.c s d back m).1 C,?_,?_⟩
    · cases d with
      | tick =>
        walk_at "rd"
        refine ⟨p,dx,dy,rl,sn,rs,g,s,rfl,PA,og,ok,fun H2 b2 PA2=>?_⟩
        walk_at "rd"
        first | exact Or.inl rfl | exact ⟨PA2,Or.inl rfl⟩ | exact ⟨b2,PA2,Or.inl rfl⟩
      | press =>
        walk_at "rd"
        refine ⟨p,dx,dy,rl,sn,rs,g,s,m,rfl,PA,og,ok,by omega,fun hp H2 b2 PA2=>?_,fun hn=>?_⟩
        · have e:Sd.deed g.c s .press back m=(.non,{ s with ask:=s.ask + m,fre:=g.lock }):=if_pos hp
          walk_at "rd"
          rw [e]
          first | exact Or.inl rfl | exact ⟨PA2,Or.inl rfl⟩ | exact ⟨b2,PA2,Or.inl rfl⟩
        · have e:Sd.deed g.c s .press back m=(.lck,s):=if_neg hn
          show none=none∧H=H∧_
          rw [e]
          exact ⟨rfl,rfl,rfl,CL,rfl,.lck⟩
      | fill =>
        walk_at "rd"
        refine ⟨p,dx,dy,rl,sn,rs,g,s,m,rfl,PA,by omega,fun hp H2 b2 PA2=>?_,fun hn=>?_⟩
        · have e:Sd.deed g.c s .fill back m=(.non,{ s with con:=s.con + m }):=if_pos hp
          walk_at "rd"
          rw [e]
          first | exact Or.inl rfl | exact ⟨PA2,Or.inl rfl⟩ | exact ⟨b2,PA2,Or.inl rfl⟩
        · have e:Sd.deed g.c s .fill back m=(.set,s):=if_neg hn
          show none=none∧H=H∧_
          rw [e]
          exact ⟨rfl,rfl,rfl,CB,rfl,.set⟩
      | report =>
        walk_at "rd"
        refine ⟨p,dx,dy,rl,sn,rs,g,s,back,m,rfl,PA,og,ok,by omega,by omega,fun hp H2 b2 PA2=>?_,fun hn=>?_⟩
        · have e:Sd.deed g.c s .report back m=(.non,Sd.repS s back m):=if_pos ((repO_iff ok back m).mp hp)
          walk_at "rd"
          rw [e]
          first | exact Or.inl rfl | exact ⟨PA2,Or.inl rfl⟩ | exact ⟨b2,PA2,Or.inl rfl⟩
        · have e:Sd.deed g.c s .report back m=(.thr,s):=if_neg fun z=>hn ((repO_iff ok back m).mpr z)
          show none=none∧H=H∧_
          rw [e]
          exact ⟨rfl,rfl,rfl,CN,rfl,.thr⟩
      | stop =>
        walk_at "rd"
        refine ⟨p,dx,dy,rl,sn,rs,g,s,rfl,PA,fun H2 b2 PA2=>?_⟩
        walk_at "rd"
        first | exact Or.inl rfl | exact ⟨PA2,Or.inl rfl⟩ | exact ⟨b2,PA2,Or.inl rfl⟩
      | start =>
        walk_at "rd"
        refine ⟨p,dx,dy,rl,sn,rs,g,s,rfl,PA,fun H2 b2 PA2=>?_⟩
        walk_at "rd"
        first | exact Or.inl rfl | exact ⟨PA2,Or.inl rfl⟩ | exact ⟨b2,PA2,Or.inl rfl⟩
    · rintro cls dd H' ⟨rfl,rfl,e2,C,rfl,hC⟩
      obtain ⟨b1,b2,b3,j,ek,_⟩:=hC.all Z
      refine ⟨C,rfl,ek.x,fun ea nea=>?_⟩
      walk_at "rd"
      exact ⟨But.same (Same.new nea _),by rw [e2];exact PA.same (Same.new nea _),Or.inr ⟨ea,C,hC,upd_same,rfl⟩⟩
  · rintro σ' H' ⟨b,PA',rfl | ⟨ea,C,hC,hea,rfl⟩⟩
    · walk_at "rd"
      exact q H' b PA'
    · obtain ⟨b1,b2,b3,j,ek,hc,hj,hno,hat⟩:=hC.all Z
      walk_at "rd"
      refine ⟨ea,C,CB,b1,rfl,hea,ek.e,ek.i1,?_⟩
      walk_at "rd"
      refine ⟨ea,C,CL,b2,rfl,hea,ek.e,ek.i2,?_⟩
      walk_at "rd"
      refine ⟨ea,C,CN,b3,rfl,hea,ek.e,ek.i3,?_⟩
      walk_at "rd"
      intro l nl
      have hea':=at_new (o:=.lst [.bl b1,.bl b2,.bl b3]) nl hea
      have hl:(upd H' l (.lst [.bl b1,.bl b2,.bl b3])) l=some (.lst ([b1,b2,b3].map V.bl)):=upd_same
      walk_at "rd"
      refine ⟨ea,C, "ValueError",true,rfl,hea',ek.e,ek.iv,?_⟩
      walk_at "rd"
      refine ⟨ea,C,CS,false,rfl,hea',ek.e,ek.is,?_⟩
      walk_at "rd"
      intro l2 nl2
      have hl2:=at_new (o:=.lst [.str "setting",.str "locked",.str "there"]) nl2 hl
      walk_at "rd"
      refine ⟨l,[b1,b2,b3],j,rfl,rfl,hl2,hj,hno,?_⟩
      walk_at "rd"
      exact q _ (b.trans (But.same ((Same.new nl _).trans (Same.new nl2 _)))) (PA'.same ((Same.new nl _).trans (Same.new nl2 _)))
end
end Sp

set_option Elab.async false
set_option linter.all false
set_option maxRecDepth 100000
set_option maxHeartbeats 4000000


namespace Sp
open PySem L2
section
variable {P:Program}{w:World}{K:PySem.W.Frag}{mg:Str→Option Value}{base:Heap}{CP CD CB:Addr}
noncomputable def plainV:V→Prop
  | .int _=>True
  | .bl _=>True
  | .str _=>True
  | .non=>True
  | _=>False
noncomputable def spIs:Sp:=fun vs H Q _=>∃ x,vs = [x,x]∧plainV x∧Q (.bl true) H
theorem ty_plain {H:Hp}{x:V} (kb:PySem.W.kitOne K (.type "int") (.type "bool")=some false) (ks:PySem.W.kitOne K (.type "str") (.type "bool")=some false) (kn:PySem.W.kitOne K (.type "NoneType") (.type "bool")=some false) (hx:plainV x):∃ t b,TyOf K H x t∧PySem.W.kitOne K t (.type "bool")=some b:=by
  cases x with
  | int i=>exact ⟨_,_,.int i,kb⟩
  | bl b=>exact ⟨_,true,.bl b,by unfold PySem.W.kitOne;rw [if_pos s!"d"]⟩
  | str z=>exact ⟨_,_,.str z,ks⟩
  | non=>exact ⟨_,_,.non,kn⟩
  | _=>exact hx.elim
theorem scal_plain {x:V} (hx:plainV x):scal x x=true:=by
  cases x <;> first | rfl | exact hx.elim
theorem scLis:FnScope ["_law_found", "_law_due_here"] ["_law_found", "_law_due_here"] (defScope s_Lis):=⟨rfl,rfl,rfl,by decide +kernel,rfl,by decide +kernel,by decide +kernel⟩
theorem ok_Lis {f:Addr}{fd:FuncData} (F:Fun K "_law_is" "_law_is" s_Lis f fd) (Z:ZL mg) (kb:PySem.W.kitOne K (.type "int") (.type "bool")=some false) (ks:PySem.W.kitOne K (.type "str") (.type "bool")=some false) (kn:PySem.W.kitOne K (.type "NoneType") (.type "bool")=some false):FnOk P w K mg base CX0 1 f fd ["_law_found", "_law_due_here"] spIs:=by
  refine F.ok scLis (fun vs H Q E h=>?_) (fun cdv A outer s H vs Q E hr h=>?_)
  · obtain ⟨x,rfl,_⟩:=h
    rfl
  obtain ⟨x,rfl,hx,q⟩:=h
  refine ⟨_,%[%[(@pe_and _ _ _ _ _ _ _ (@pe_cmpR _ _ _ _ _ _ _ _ op_eq %[call_isT,rfl,Z.isinstance,s!"k",%[s!"0",%[(@pe_bltn _ _ (.ty "bool") _ _ rfl Z.bool s!"k" rfl s!"d" s!"d"),s!"n",s!"g"|0],s!"g"|0],s!"d",s!"d",s!"g",rfl|6] %[call_isT,rfl,Z.isinstance,s!"k",%[s!"1",%[(@pe_bltn _ _ (.ty "bool") _ _ rfl Z.bool s!"k" rfl s!"d" s!"d"),s!"n",s!"g"|0],s!"g"|0],s!"d",s!"d",s!"g",rfl|6] (nomark _)) (@pe_one _ _ _ _ _ (@pe_cmpR _ _ _ _ _ _ _ _ op_eq s!"0" s!"1" (nomark _))))|11]|4],?_⟩
  obtain ⟨t,b,ht,hk⟩:=ty_plain (H:=H) kb ks kn hx
  refine ⟨_,rfl,x, "bool",t,b,rfl,ht,hk,?_⟩
  refine ⟨_,rfl,x, "bool",t,b,rfl,ht,hk,?_⟩
  have e1:decide (V.bl b=V.bl b)=true:=decide_eq_true rfl
  have e2:decide (x=x)=true:=decide_eq_true rfl
  refine ⟨rfl,true,congrArg V.bl e1,?_⟩
  refine iteT ?_
  refine ⟨_,rfl,_,rfl,scal_plain hx,?_⟩
  rw [e2]
  exact q
end
end Sp

set_option Elab.async false
set_option linter.all false
set_option maxRecDepth 100000
set_option maxHeartbeats 4000000


namespace Sp
open PySem L2
section
variable {P:Program}{w:World}{K:PySem.W.Frag}{mg:Str→Option Value}{base:Heap}{CP CD CB CL CN CS CO:Addr}
structure ZM (mg:Str→Option Value):Prop extends ZL mg where
  min:mg "min"=none
noncomputable def spLRoom (K:PySem.W.Frag):Sp:=fun vs H Q _=>∃ (wd dt rl sn:Addr) (rs:List Addr) (g:Cf) (w:Sd.S),vs = [.ref wd]∧H wd=some (.dK (worldK (wfOf g w dt rl sn)))∧H rl=some (.lst (rs.map V.ref))∧RT K H rs g.rules∧0 < g.rules.length∧g.rules.length≤100 ∧
  H sn=some (.lst (w.sent.map V.int))∧∀ H',Same H H'→Q (.int (Sd.room g.rules w.sent)) H'
theorem scLroom:FnScope ["_law_world", "_law_found", "_law_window", "_law_most"] ["_law_world"] (defScope s_Lroom):=⟨rfl,rfl,rfl,by decide +kernel,rfl,by decide +kernel,by decide +kernel⟩
theorem ok_Lroom {f:Addr}{fd:FuncData} (F:Fun K "_law_room" "_law_room" s_Lroom f fd) (Z:ZM mg):FnOk P w K mg base CX0 1 f fd ["_law_world"] (spLRoom K):=by
  refine F.ok scLroom (fun vs H Q E h=>?_) (fun cdv A outer s₀ H vs Q E hr h=>?_)
  · obtain ⟨wd,dt,rl,sn,rs,g,s,rfl,_⟩:=h
    rfl
  obtain ⟨wd,dt,rl,sn,rs,g,s,rfl,hw,hrl,hT,h0,h100,hsn,q⟩:=h
  have hu:=hu_of hr
  have hlen:=hT.len
  refine ⟨_,%[%[(1),_,_,_,_,scLroom.nd,rfl,(Or.inl rfl),%[s!"n"|23],s!"g",s!"f"|12],%[(@ps_for _ _ _ _ _ _ _ _ PassesOwn.never rfl (@pi_list _ _ _ _ %[W_rules,hu,s!"0"|7]) (@pg_tup _ _ _ _ _ _ rfl (@pgs_cons _ _ _ _ _ (@pg_name _ _ (2) _ scLroom.nd rfl (Or.inl rfl) s!"f") (@pgs_cons _ _ _ _ _ (@pg_name _ _ (3) _ scLroom.nd rfl (Or.inl rfl) s!"f") (@pgs_nil _) s!"g") s!"g") (by rfl) (by rfl)) %[%[%[PySem.F.plainAttrs_list,PySem.F.slot_list_append,PySem.F.type_list_append,mt_append,s!"1",%[%[op_sub,s!"3",%[(call_sumL rfl),rfl,Z.sum,s!"k",%[(@pe_slice _ _ _ _ _ _ _ _ _ _ sl_list %[W_sent,hu,s!"0"|7] (@po_some _ _ _ %[(call_max2m rfl),rfl,Z.max,s!"k",%[s!"i",%[%[op_add,%[op_sub,%[call_len_seq,rfl,Z.len,s!"k",%[%[W_sent,hu,s!"0"|7],s!"n",s!"g"|0],s!"d",s!"d",s!"g",rfl|6],s!"2"|3],s!"i"|3],s!"n",s!"g"|0],s!"g"|0],s!"d",s!"d",s!"g",rfl|6]) (@po_none _)),s!"n",s!"g"|0],s!"d",s!"d",s!"g",rfl|6]|3],s!"n",s!"g"|0],s!"g",s!"g",s!"g",s!"g",s!"g"|20],s!"g"|18]|4] s!"g"),%[%[%[(call_max2m rfl),rfl,Z.max,s!"k",%[s!"i",%[%[(call_minL rfl),rfl,Z.min,s!"k",%[s!"1",s!"n",s!"g"|0],s!"d",s!"d",s!"g",rfl|6],s!"n",s!"g"|0],s!"g"|0],s!"d",s!"d",s!"g",rfl|6]|11]|4]|2]|2],?_⟩
  dsimp only [cxOf,Cx.nox]
  walk_at "rd"
  intro lf nlf
  have sf:=Same.new nlf (.lst [])
  have hw1:=sf _ _ hw
  have hrl1:=sf _ _ hrl
  walk_at "rd"
  refine for_list (xs:=rs.map V.ref) (fun i σ H3=>∃ v2 v3,σ = [some (.ref wd),some (.ref lf),v2,v3]∧Same H H3∧H3 lf=some (.lst ((Sd.lefts (g.rules.take i) s.sent).map V.int))) ?_ ?_ ?_ ?_
  · exact ⟨none,none,rfl,sf,upd_same⟩
  · rintro i σ H3 _ ⟨v2,v3,rfl,s3,_⟩
    exact SqL.of (s3 _ _ hrl)
  · rintro i x σ H3 hx ⟨v2,v3,rfl,s3,hlf⟩
    obtain ⟨r,rfl,er,hlt⟩:=getRef hx
    have hTr:=s3.tup (hT.at_ i r er)
    have hw3:=s3 _ _ hw
    have hsn3:=s3 _ _ hsn
    have hil:i < g.rules.length:=by omega
    generalize hq:g.rules.getD i (0,0)=rr at hTr
    have hTr:SqT K H3 r [.int rr.1,.int rr.2]:=hTr
    have hq1:(g.rules.getD i (0,0)).1=rr.1:=by rw [hq]
    have hq2:(g.rules.getD i (0,0)).2=rr.2:=by rw [hq]
    generalize rr.1=wi at hTr hq1
    generalize rr.2=mo at hTr hq2
    have hsz:((Sd.lefts (g.rules.take i) s.sent).map V.int).length < sizeLine:=by
      rw [List.length_map,sizeLine_eq]
      unfold Sd.lefts
      rw [List.length_map,List.length_take]
      omega
    iterate 15 walk_at "r1"
    refine ⟨_,_,rfl,_,rfl,?_⟩
    refine ⟨sn,s.sent.map V.int,rfl,SqL.of hsn3,?_⟩
    intro p1 np1
    have e1:cutV (s.sent.map V.int) (some (max 0 (((s.sent.map V.int).length:Int) - wi + 1))) none=(s.sent.drop (max 0 ((s.sent.length:Int) - (wi - 1))).toNat).map V.int:=by
      rw [List.length_map,show (s.sent.length:Int) - wi + 1=(s.sent.length:Int) - (wi - 1) by omega]
      have e:(max 0 ((s.sent.length:Int) - (wi - 1)))=(((max 0 ((s.sent.length:Int) - (wi - 1))).toNat:Nat):Int):=by omega
      rw [e,cut_from,List.map_drop,← e]
    rw [e1]
    refine ⟨p1,_,rfl,SqL.of upd_same,?_⟩
    have sp:=Same.new np1 (.lst ((s.sent.drop (max 0 ((s.sent.length:Int) - (wi - 1))).toNat).map V.int))
    have hlf3:=sp _ _ hlf
    generalize upd H3 p1 (.lst ((s.sent.drop (max 0 ((s.sent.length:Int) - (wi - 1))).toNat).map V.int))=H4 at sp hlf3 ⊢
    walk_at "rd"
    refine ⟨(s3.trans sp).mut nlf,?_⟩
    rw [upd_same]
    have e2:g.rules.take (i + 1)=g.rules.take i ++ [g.rules.getD i (0,0)]:=by
      rw [List.take_succ,(getDr (ps:=g.rules) hil).2]
      rfl
    rw [e2]
    unfold Sd.lefts
    rw [List.map_append,List.map_append,hq,← hq1,← hq2,hq]
    rfl
  · rintro σ H3 ⟨v2,v3,rfl,s3,hlf⟩
    rw [List.length_map,hlen,List.take_length] at hlf
    walk_at "rd"
    refine ⟨lf,_,rfl,SqL.of hlf,by unfold Sd.lefts;rw [List.length_map];exact h0,fun M hM hMx=>?_⟩
    walk_at "rd"
    rw [Sd.minL_uniq hM hMx]
    exact q H3 s3
end
end Sp

set_option Elab.async false
set_option linter.all false
set_option maxRecDepth 100000
set_option maxHeartbeats 4000000


namespace Sp
open PySem L2
section
variable {P:Program}{w:World}{K:PySem.W.Frag}{mg:Str→Option Value}{base:Heap}{CP CD CB CL CN CS CO:Addr}
theorem WorldAt.put {H H':Hp}{wd dt dl rl sn sn':Addr}{ds rs:List Addr}{g:Cf}{w w':Sd.S} (a:WorldAt K H wd dt dl rl sn ds rs g w) (b:But wd sn H H') (ob:H' wd=some (.dK (worldK (wfOf g w' dt rl sn')))) (se:H' sn'=some (.lst (w'.sent.map V.int)))
    (h:sn'=sn ∨ H sn'=none):WorldAt K H' wd dt dl rl sn' ds rs g w':=by
  have kw:=a.ob
  have ks:=a.se
  have e5:rl ≠ wd:=ne_of a.rls kw (by intro z;cases z)
  have e7:dl ≠ wd:=ne_of a.dw.ls kw (by intro z;cases z)
  have e8:dt ≠ wd:=ne_of a.dw.tp kw (by intro z;cases z)
  have e9:dt ≠ sn:=ne_of a.dw.tp ks (by intro z;cases z)
  refine ⟨ob,⟨b _ _ e8 e9 a.dw.tp,b _ _ e7 a.nd.symm a.dw.ls,a.dw.ts.but kw True.intro ks True.intro b,a.dw.ok,a.dw.le⟩,b _ _ e5 a.nr.symm a.rls,a.rt.but kw True.intro ks True.intro b,se,?_,?_⟩
  · rcases h with h | h
    · rw [h];exact a.nd
    · exact (ne_of_none a.dw.ls h).symm
  · rcases h with h | h
    · rw [h];exact a.nr
    · exact (ne_of_none a.rls h).symm
inductive SpLTick (K:PySem.W.Frag) (vs:List V) (H:Hp) (Q:VK) (E:XK):Prop where
  | mk (wd dt dl rl sn:Addr) (ds rs:List Addr) (g:Cf) (w:Sd.S) (c0:vs = [.ref wd]) (c1:WorldAt K H wd dt dl rl sn ds rs g w) (c2:g.Ok) (c3:0≤w.now) (c4:w.sent.length≤100) (c5:∀ sn' H',But wd sn H H'→(sn'=sn ∨ H sn'=none)→WorldAt K H' wd dt dl rl sn' ds rs g (Sd.wtick g.c w)→Q (.int (Sd.many g.c w)) H'):SpLTick K vs H Q E
noncomputable def spLTick (K:PySem.W.Frag):Sp:=fun vs H Q E=>SpLTick K vs H Q E
theorem scLtick:FnScope ["_law_world", "_law_many", "_law_both", "_law_waits"] ["_law_world"] (defScope s_Ltick):=⟨rfl,rfl,rfl,by decide +kernel,rfl,by decide +kernel,by decide +kernel⟩
theorem ok_Ltick {f f1 f2:Addr}{fd fd1 fd2:FuncData} (F:Fun K "_law_tick" "_law_tick" s_Ltick f fd) (Z:ZM mg) (B_Ldue:Fn P w K mg base CX0 1 "_law_due" ["_law_day_here", "_law_when"] (spLdue K) f1 fd1) (B_Lroom:Fn P w K mg base CX0 1 "_law_room" ["_law_world"] (spLRoom K) f2 fd2):FnOk P w K mg base CX0 2 f fd ["_law_world"] (spLTick K):=by
  refine F.ok scLtick (fun vs H Q E h=>?_) (fun cdv A outer s₀ H vs Q E hr h=>?_)
  · obtain ⟨wd,dt,dl,rl,sn,ds,rs,g,s,rfl,_⟩:=h
    rfl
  obtain ⟨wd,dt,dl,rl,sn,ds,rs,g,s,rfl,W,og,h0,h100,q⟩:=h
  have hu:=hu_of hr
  have hw:=W.ob
  have rln:=og.r.ln
  refine ⟨_,%[(@ps_cut _ _ _ %[(@pt_truth _ _ _ %[W_running,hu,s!"0"|7] (fun _=>rfl)),%[%[W_waiting,hu,s!"0",%[op_add,%[W_waiting,hu,s!"0"|7],%[B_Ldue.ok,s!"h",rfl,B_Ldue.m,B_Ldue.kp,B_Ldue.b,.nil,pass0,%[%[W_day,hu,s!"0"|7],%[%[W_now,hu,s!"0"|7],s!"n",s!"g"|0],s!"g"|0],s!"d",s!"g",rfl|1]|3],s!"g"|13]|4],s!"z"|10]),%[%[(1),_,_,_,_,scLtick.nd,rfl,(Or.inl rfl),%[(call_min3m rfl),rfl,Z.min,s!"k",%[%[B_Lroom.ok,s!"h",rfl,B_Lroom.m,B_Lroom.kp,B_Lroom.b,.nil,pass0,%[s!"0",s!"n",s!"g"|0],s!"d",s!"g",rfl|1],%[%[W_content,hu,s!"0"|7],%[%[op_add,%[W_waiting,hu,s!"0"|7],%[W_asked,hu,s!"0"|7]|3],s!"n",s!"g"|0],s!"g"|0],s!"g"|0],s!"d",s!"d",s!"g",rfl|6],s!"g",s!"f"|12],%[%[(2),_,_,_,_,scLtick.nd,rfl,(Or.inl rfl),%[op_sub,%[op_add,%[W_waiting,hu,s!"0"|7],%[W_asked,hu,s!"0"|7]|3],s!"1"|3],s!"g",s!"f"|12],%[%[(3),_,_,_,_,scLtick.nd,rfl,(Or.inl rfl),%[(call_max2m rfl),rfl,Z.max,s!"k",%[s!"i",%[%[op_sub,%[W_waiting,hu,s!"0"|7],s!"1"|3],s!"n",s!"g"|0],s!"g"|0],s!"d",s!"d",s!"g",rfl|6],s!"g",s!"f"|12],%[%[W_asked,hu,s!"0",%[op_sub,s!"2",s!"3"|3],s!"g"|13],%[%[W_waiting,hu,s!"0",%[(call_min2m rfl),rfl,Z.min,s!"k",%[s!"3",%[%[W_hold,hu,s!"0"|7],s!"n",s!"g"|0],s!"g"|0],s!"d",s!"d",s!"g",rfl|6],s!"g"|13],%[%[W_missed,hu,s!"0",%[op_sub,%[op_add,%[W_missed,hu,s!"0"|7],s!"3"|3],%[W_waiting,hu,s!"0"|7]|3],s!"g"|13],%[%[W_content,hu,s!"0",%[op_sub,%[W_content,hu,s!"0"|7],s!"1"|3],s!"g"|13],%[%[W_total,hu,s!"0",%[op_add,%[W_total,hu,s!"0"|7],s!"1"|3],s!"g"|13],%[%[W_sent,hu,s!"0",%[op_cat,%[W_sent,hu,s!"0"|7],%[%[s!"1",s!"n",s!"g"|0]|23]|3],s!"g"|13],%[%[W_now,hu,s!"0",%[op_add,%[W_now,hu,s!"0"|7],s!"i"|3],s!"g"|13],%[%[s!"1"|11]|4]|2]|2]|2]|2]|2]|2]|2]|2]|2]|2]|2],?_⟩
  refine ⟨fun σ' H'=>σ' = [some (.ref wd),none,none,none]∧But wd sn H H'∧WorldAt K H' wd dt dl rl sn ds rs g { s with wai:=Sd.wai1 g.c s },?_,?_⟩
  · walk_at "rd"
    by_cases hrun:s.run=true
    · refine Eq.mpr (if_pos hrun) ?_
      have dw:=W.dw
      have dle:=dw.le
      walk_at "rd"
      refine ⟨dt,dl,ds,g.ticks,s.now,g.ps,rfl,SqT.of dw.tp,SqL.of dw.ls,dw.ts,dw.ok,by omega,h0,fun H2 s2=>?_⟩
      have W2:=W.same s2
      have hw2:=W2.ob
      walk_at "rd"
      have e:Sd.wai1 g.c s=s.wai + DayM.due g.ticks g.ps s.now:=by unfold Sd.wai1;rw [if_pos hrun];rfl
      rw [e]
      exact ⟨(But.same s2).trans But.put,W2.put (w':={ s with wai:=s.wai + DayM.due g.ticks g.ps s.now }) But.put upd_same (at_ne (ne_of W2.se hw2 (by intro z;cases z)) W2.se) (Or.inl rfl)⟩
    · refine Eq.mpr (if_neg hrun) ?_
      have e:Sd.wai1 g.c s=s.wai:=by unfold Sd.wai1;rw [if_neg hrun]
      rw [e]
      exact ⟨rfl,But.refl,W⟩
  clear hw
  rintro σ' H2 ⟨rfl,b2,W2⟩
  have hw2:=W2.ob
  walk_at "rd"
  refine ⟨wd,dt,rl,sn,rs,g,_,rfl,hw2,W2.rls,W2.rt,by omega,by omega,W2.se,fun H3 s3=>?_⟩
  have W3:=W2.same s3
  have hw3:=W3.ob
  have hs3:=W3.se
  have n1:wd ≠ sn:=ne_of hw3 hs3 (by intro z;cases z)
  have n1':=n1.symm
  walk_at "rd"
  intro sl nsl
  simp only [upd_upd] at nsl ⊢
  have nwl:wd ≠ sl:=ne_of_none upd_same nsl
  have hsz:(s.sent.map V.int).length + [V.int (Sd.many g.c s)].length≤sizeLine:=by rw [List.length_map,sizeLine_eq];show _ + 1≤_;omega
  have nsl3:H3 sl=none:=by rw [upd_ne nwl.symm] at nsl;exact nsl
  have nssl:sn ≠ sl:=ne_of_none hs3 nsl3
  refine ⟨sn,sl,s.sent.map V.int,[.int (Sd.many g.c s)],rfl,rfl,at_ne nssl (at_ne n1' hs3),upd_same,hsz,fun sn' nsn'=>?_⟩
  have nsw:sn' ≠ wd:=(ne_of_none (at_ne nwl upd_same) nsn').symm
  have nssl':sn' ≠ sl:=(ne_of_none upd_same nsn').symm
  have nsn3:H3 sn'=none:=by rw [upd_ne nssl',upd_ne nsw] at nsn';exact nsn'
  have nws:=nsw.symm
  walk_at "rd"
  have bb:∀ (X Y:HO),But wd sn H3 (upd (upd (upd (upd H3 wd X) sl (.lst [.int (Sd.many g.c s)])) sn' (.lst (s.sent.map V.int ++ [.int (Sd.many g.c s)]))) wd Y):=fun X Y c o h1 h2 e=>at_ne h1 (at_ne (ne_of_none e nsn3) (at_ne (ne_of_none e nsl3) (at_ne h1 e)))
  simp only [upd_upd]
  refine q sn' _ ((b2.trans (But.same s3)).trans (bb _ _)) (Or.inr ?_) (W3.put (w':=Sd.wtick g.c s) (bb _ _) upd_same ?_ (Or.inr nsn3))
  · cases e:H sn' with
    | none=>rfl
    | some o =>
      have nn:sn' ≠ sn:=(ne_of_none hs3 nsn3).symm
      have:=s3 _ _ (b2 _ _ nsw nn e)
      rw [nsn3] at this
      cases this
  · rw [upd_ne nsw,upd_same]
    show some (HO.lst _)=some (HO.lst ((s.sent ++ [Sd.many g.c s]).map V.int))
    rw [List.map_append]
    rfl
end
end Sp

set_option Elab.async false
set_option linter.all false
set_option maxRecDepth 100000
set_option maxHeartbeats 4000000


namespace Sp
open PySem L2
section
variable {P:Program}{w:World}{K:PySem.W.Frag}{mg:Str→Option Value}{base:Heap}{CP CD CB CL CN CS CO:Addr}
theorem ix_back {out:List Int}{back:Int} (h1:1≤back) (h2:back≤out.length):ixN (out.map V.int).length (-back)=some (Sd.plc out back):=by
  unfold ixN Sd.plc
  rw [List.length_map,if_neg (by omega),if_pos (by omega)]
  congr 1
  omega
inductive SpLRep (K:PySem.W.Frag) (vs:List V) (H:Hp) (Q:VK) (E:XK):Prop where
  | mk (wd dt dl rl sn:Addr) (ds rs:List Addr) (g:Cf) (w:Sd.S) (back m:Int) (c0:vs = [.ref wd,.int back,.int m]) (c1:WorldAt K H wd dt dl rl sn ds rs g w) (c2:g.Ok) (c3:w.sent.length≤100) (c4:∀ H',But wd sn H H'→WorldAt K H' wd dt dl rl sn ds rs g (Sd.reportS g.c w back m).2→Q (anV (Sd.reportS g.c w back m).1) H'):SpLRep K vs H Q E
noncomputable def spLRep (K:PySem.W.Frag):Sp:=fun vs H Q E=>SpLRep K vs H Q E
theorem scLreport:FnScope ["_law_world", "_law_back", "_law_many", "_law_longest", "_law_less"] ["_law_world", "_law_back", "_law_many"] (defScope s_Lreport):=⟨rfl,rfl,rfl,by decide +kernel,rfl,by decide +kernel,by decide +kernel⟩
theorem ok_Lreport {f:Addr}{fd:FuncData} (F:Fun K "_law_report" "_law_report" s_Lreport f fd) (Z:ZM mg):FnOk P w K mg base CX0 1 f fd ["_law_world", "_law_back", "_law_many"] (spLRep K):=by
  refine F.ok scLreport (fun vs H Q E h=>?_) (fun cdv A outer s₀ H vs Q E hr h=>?_)
  · obtain ⟨wd,dt,dl,rl,sn,ds,rs,g,s,back,m,rfl,_⟩:=h
    rfl
  obtain ⟨wd,dt,dl,rl,sn,ds,rs,g,s,back,m,rfl,W,og,h100,q⟩:=h
  have hu:=hu_of hr
  have hw:=W.ob
  have hrl:=W.rls
  have rln:=og.r.ln
  have hT:=W.rt
  have hlen:=hT.len
  refine ⟨_,%[%[(3),_,_,_,_,scLreport.nd,rfl,(Or.inl rfl),%[(call_maxL rfl),rfl,Z.max,s!"k",%[%[(defScope s_Lreport),_,(["_law_world", "_law_back", "_law_many", "_law_longest", "_law_less"]),(["_law_world", "_law_back", "_law_many", "_law_longest", "_law_less", "_law_rule"]),(["_law_rule"]),_,_,_,_,_,rfl,rfl,rfl,(.of s!"k"),(@pi_list _ _ _ _ %[W_rules,hu,s!"0"|7]),takes_name,(fun _ _ _ _ _=>@pg_name _ _ (5) _ (show List.Nodup (["_law_world", "_law_back", "_law_many", "_law_longest", "_law_less", "_law_rule"]:List Str) by decide +kernel) rfl (Or.inl rfl) s!"f"),(fun _ _ _ _ _=>@pif_nil _),(fun _ _ _ _ _=>%[(ix_tupK (K:=K) rfl),s!"5",s!"i",(fun _ _=>rfl)|8]),s!"g"|22],s!"n",s!"g"|0],s!"d",s!"d",s!"g",rfl|6],s!"g",s!"f"|12],%[%[(PW.pt %[(@pt_not _ _ _ _ (@pt_chain _ _ _ _ _ _ _ _ _ _ _ _ op_le op_le s!"i" s!"1" %[(call_min2m rfl),rfl,Z.min,s!"k",%[s!"3",%[%[call_len_seq,rfl,Z.len,s!"k",%[%[W_sent,hu,s!"0"|7],s!"n",s!"g"|0],s!"d",s!"d",s!"g",rfl|6],s!"n",s!"g"|0],s!"g"|0],s!"d",s!"d",s!"g",rfl|6] (by with_unfolding_all rfl))),(@pw_or1 _ _ _ _ (@pt_not _ _ _ _ (@pt_chain _ _ _ _ _ _ _ _ _ _ _ _ op_le op_le s!"i" s!"2" %[ix_list,%[W_sent,hu,s!"0"|7],(@pe_un _ _ _ _ _ _ un_neg s!"1"),(fun _ _=>rfl)|8] (by with_unfolding_all rfl))))|21]),%[%[s!"s"|11]|4],s!"z"|10],%[%[(4),_,_,_,_,scLreport.nd,rfl,(Or.inl rfl),%[op_sub,%[ix_list,%[W_sent,hu,s!"0"|7],(@pe_un _ _ _ _ _ _ un_neg s!"1"),(fun _ _=>rfl)|8],s!"2"|3],s!"g",s!"f"|12],%[(@ps_asg _ _ _ _ _ _ s!"2" (@pg_sub _ _ _ _ _ _ _ %[W_sent,hu,s!"0"|7] (@pe_un _ _ _ _ _ _ un_neg s!"1") set_list s!"g") s!"g" s!"g" s!"g"),%[%[W_content,hu,s!"0",%[op_add,%[W_content,hu,s!"0"|7],s!"4"|3],s!"g"|13],%[%[W_missed,hu,s!"0",%[op_add,%[W_missed,hu,s!"0"|7],s!"4"|3],s!"g"|13],%[%[W_total,hu,s!"0",%[op_sub,%[W_total,hu,s!"0"|7],s!"4"|3],s!"g"|13],%[%[(@pe_non _ _ _)|11]|4]|2]|2]|2]|2]|2]|2]|2],?_⟩
  walk_at "rd"
  intro acc n1
  refine comp_list (xs:=rs.map V.ref) (fun i ys H2=>ys=((g.rules.take i).map (·.1)).map V.int∧Same H H2∧H2 acc=some (.lst ys)) ?_ ?_ ?_ ?_
  · exact ⟨rfl,Same.new n1 _,upd_same⟩
  · rintro i ys H2 _ ⟨_,s2,_⟩
    exact SqL.of (s2 _ _ W.rls)
  · rintro i x ys H2 hi hx ⟨rfl,s2,hacc⟩
    obtain ⟨r,rfl,er,hlt⟩:=getRef hx
    have hTr:=hT.at_ i r er
    walk_at "rd"
    refine ⟨small1000 (by rw [List.length_map,List.length_map,List.length_take];omega),cstep hi ⟨?_,s2.mut n1,upd_same⟩⟩
    rw [List.take_succ,List.map_append,List.map_append,(getDr (ps:=g.rules) (i:=i) (by omega)).2]
    rfl
  · rintro ys H2 ⟨rfl,s2,hacc⟩
    rw [List.take_of_length_le (by rw [List.length_map];omega)] at hacc
    have W2:=W.same s2
    have hw2:=W2.ob
    have hs2:=W2.se
    have nws:wd ≠ sn:=ne_of hw2 hs2 (by intro z;cases z)
    have nws':=nws.symm
    refine ⟨acc,g.rules.map (·.1),rfl,SqL.of hacc,by rw [List.length_map];omega,fun M hM hMx=>?_⟩
    have eM:M=Sd.longest g.c.rules:=Sd.maxL_uniq hM hMx
    subst eM
    have hml:((s.sent.map V.int).length:Int)=(s.sent.length:Nat):=by rw [List.length_map]
    obtain ⟨L,hL⟩:∃ L,L=Sd.longest g.c.rules:=⟨_,rfl⟩
    rw [← hL]
    have no:¬ Sd.RepOk L s.sent back m→Sd.reportS g.c s back m=(.thr,s):=fun z=>by rw [hL] at z;exact if_neg z
    by_cases b1:1≤back
    · iterate 8 walk_at "r1"
      refine ⟨_,_,rfl,_,_,rfl,rfl,?_⟩
      by_cases b2:back≤L∧back≤(s.sent.length:Int)
      · have d2:decide (back≤min L ((s.sent.map V.int).length:Int))=true:=decide_eq_true (by omega)
        have hix:=ix_back (out:=s.sent) b1 b2.2
        have hp:Sd.plc s.sent back < s.sent.length:=by unfold Sd.plc;omega
        have hk:atI (s.sent.map V.int) (-back)=some (.int (Sd.known s.sent back)):=by
          unfold atI
          rw [hix]
          show (s.sent.map V.int)[Sd.plc s.sent back]?=_
          rw [List.getElem?_map,List.getElem?_eq_getElem hp]
          unfold Sd.known
          rw [List.getD_eq_getElem?_getD,List.getElem?_eq_getElem hp]
          rfl
        by_cases k1:0≤m
        · by_cases k2:m≤Sd.known s.sent back
          · have e:Sd.reportS g.c s back m=(.non,Sd.repS s back m):=if_pos (by rw [← hL];exact ⟨b1,b2.1,b2.2,k1,k2⟩)
            have d3:decide (m≤Sd.known s.sent back)=true:=decide_eq_true k2
            rw [e] at q
            walk_at "rd"
            rw [d2]
            walk_at "rd"
            simp only [upd_upd]
            refine q _ ((But.same s2).trans (But.putS.trans But.put)) (W2.put (w':=Sd.repS s back m) (But.putS.trans But.put) upd_same ?_ (Or.inl rfl))
            rw [upd_ne nws',upd_same]
            show _=some (HO.lst ((s.sent.set (Sd.plc s.sent back) m).map V.int))
            rw [List.map_set]
          · have e:=no fun z=>k2 z.2.2.2.2
            have d3:decide (m≤Sd.known s.sent back)=false:=decide_eq_false k2
            rw [e] at q
            walk_at "rd"
            rw [d2]
            walk_at "rd"
            exact q H2 (But.same s2) W2
        · have e:=no fun z=>k1 z.2.2.2.1
          rw [e] at q
          walk_at "rd"
          rw [d2]
          walk_at "rd"
          exact q H2 (But.same s2) W2
      · have d2:decide (back≤min L ((s.sent.map V.int).length:Int))=false:=decide_eq_false (by omega)
        have e:=no fun z=>b2 ⟨z.2.1,z.2.2.1⟩
        rw [e] at q
        walk_at "rd"
        rw [d2]
        walk_at "rd"
        exact q H2 (But.same s2) W2
    · have e:=no fun z=>b1 z.1
      rw [e] at q
      walk_at "rd"
      exact q H2 (But.same s2) W2
end
end Sp

set_option Elab.async false
set_option linter.all false
set_option maxRecDepth 100000
set_option maxHeartbeats 4000000


namespace Sp
open PySem L2
section
variable {P:Program}{w:World}{K:PySem.W.Frag}{mg:Str→Option Value}{base:Heap}{CP CD CB CL CN CS CO:Addr}
theorem WorldAt.putD {H:Hp}{wd dt dl rl sn:Addr}{ds rs:List Addr}{g:Cf}{w w':Sd.S} (a:WorldAt K H wd dt dl rl sn ds rs g w) (e:w'.sent=w.sent):WorldAt K (upd H wd (.dK (worldK (wfOf g w' dt rl sn)))) wd dt dl rl sn ds rs g w':=
  a.put But.put upd_same (at_ne (ne_of a.se a.ob (by intro z;cases z)) (by rw [e];exact a.se)) (Or.inl rfl)
inductive SpLDone (K:PySem.W.Frag) (vs:List V) (H:Hp) (Q:VK) (E:XK):Prop where
  | mk (wd dt dl rl sn:Addr) (ds rs:List Addr) (g:Cf) (w:Sd.S) (d:Sd.Wd) (back m:Int) (c0:vs = [.ref wd,.str (wdS d),.int back,.int m]) (c1:WorldAt K H wd dt dl rl sn ds rs g w) (c2:g.Ok) (c3:0≤w.now) (c4:w.sent.length≤100) (c5:∀ sn' H',But wd sn H H'→(sn'=sn ∨ H sn'=none)→WorldAt K H' wd dt dl rl sn' ds rs g (Sd.wdeed g.c w d back m).2→Q (anV (Sd.wdeed g.c w d back m).1) H'):SpLDone K vs H Q E
noncomputable def spLDone (K:PySem.W.Frag):Sp:=fun vs H Q E=>SpLDone K vs H Q E
theorem scLdone:FnScope ["_law_world", "_law_word", "_law_back", "_law_many"] ["_law_world", "_law_word", "_law_back", "_law_many"] (defScope s_Ldone):=⟨rfl,rfl,rfl,by decide +kernel,rfl,by decide +kernel,by decide +kernel⟩
theorem ok_Ldone {f f1 f2:Addr}{fd fd1 fd2:FuncData} (F:Fun K "_law_done" "_law_done" s_Ldone f fd) (B_Ltick:Fn P w K mg base CX0 2 "_law_tick" ["_law_world"] (spLTick K) f1 fd1) (B_Lreport:Fn P w K mg base CX0 1 "_law_report" ["_law_world", "_law_back", "_law_many"] (spLRep K) f2 fd2):FnOk P w K mg base CX0 3 f fd ["_law_world", "_law_word", "_law_back", "_law_many"] (spLDone K):=by
  refine F.ok scLdone (fun vs H Q E h=>?_) (fun cdv A outer s₀ H vs Q E hr h=>?_)
  · obtain ⟨wd,dt,dl,rl,sn,ds,rs,g,s,d,back,m,rfl,_⟩:=h
    rfl
  obtain ⟨wd,dt,dl,rl,sn,ds,rs,g,s,d,back,m,rfl,W,og,h0,h100,q⟩:=h
  have hu:=hu_of hr
  refine ⟨_,%[%[%[op_eq,s!"1",s!"s",(nomark _)|9],%[%[%[B_Ltick.ok,s!"h",rfl,B_Ltick.m,B_Ltick.kp,B_Ltick.b,.nil,pass0,%[s!"0",s!"n",s!"g"|0],s!"d",s!"g",rfl|1]|11]|4],s!"z"|10],%[%[%[op_eq,s!"1",s!"s",(nomark _)|9],%[%[%[B_Lreport.ok,s!"h",rfl,B_Lreport.m,B_Lreport.kp,B_Lreport.b,.nil,pass0,%[s!"0",%[s!"2",%[s!"3",s!"n",s!"g"|0],s!"g"|0],s!"g"|0],s!"d",s!"g",rfl|1]|11]|4],s!"z"|10],%[%[%[op_eq,s!"1",s!"s",(nomark _)|9],%[%[(@pt_not _ _ _ _ (@pt_chain _ _ _ _ _ _ _ _ _ _ _ _ op_le op_le s!"i" s!"3" s!"i" (by with_unfolding_all rfl))),%[%[s!"s"|11]|4],s!"z"|10],%[%[W_content,hu,s!"0",%[op_add,%[W_content,hu,s!"0"|7],s!"3"|3],s!"g"|13]|4]|2],%[%[%[op_eq,s!"1",s!"s",(nomark _)|9],%[%[(PW.pt %[(@pt_not _ _ _ _ (@pt_truth _ _ _ %[W_running,hu,s!"0"|7] (fun _=>rfl))),%[(@pt_not _ _ _ _ (@pt_chain _ _ _ _ _ _ _ _ _ _ _ _ op_le op_le s!"i" s!"3" %[W_dose,hu,s!"0"|7] (by with_unfolding_all rfl))),(@pw_or1 _ _ _ _ %[op_lt,%[W_now,hu,s!"0"|7],%[W_free,hu,s!"0"|7],(nomark _)|9])|21]|21]),%[%[s!"s"|11]|4],s!"z"|10],%[%[W_asked,hu,s!"0",%[op_add,%[W_asked,hu,s!"0"|7],s!"3"|3],s!"g"|13],%[%[W_free,hu,s!"0",%[op_add,%[W_now,hu,s!"0"|7],%[W_lock,hu,s!"0"|7]|3],s!"g"|13]|4]|2]|2],%[%[W_running,hu,s!"0",(@pe_cmpR _ _ _ _ _ _ _ _ op_eq s!"1" s!"s" (nomark _)),s!"g"|13],%[%[%[op_eq,s!"1",s!"s",(nomark _)|9],%[%[W_missed,hu,s!"0",%[op_add,%[op_add,%[W_missed,hu,s!"0"|7],%[W_waiting,hu,s!"0"|7]|3],%[W_asked,hu,s!"0"|7]|3],s!"g"|13],%[%[W_waiting,hu,s!"0",s!"i",s!"g"|13],%[%[W_asked,hu,s!"0",s!"i",s!"g"|13]|4]|2]|2],s!"z"|10]|4]|2]|10]|4]|10],%[%[(@pe_non _ _ _)|11]|4]|2]|2]|2],?_⟩
  cases d with
  | tick =>
    walk_at "rd"
    refine ⟨wd,dt,dl,rl,sn,ds,rs,g,s,rfl,W,og,h0,h100,fun sn' H' b hs W'=>?_⟩
    exact q sn' H' b hs W'
  | report =>
    walk_at "rd"
    refine ⟨wd,dt,dl,rl,sn,ds,rs,g,s,back,m,rfl,W,og,h100,fun H' b W'=>?_⟩
    exact q sn H' b (Or.inl rfl) W'
  | fill =>
    have hw:=W.ob
    by_cases h1:0≤m
    · by_cases h2:m≤1000000
      · have e:Sd.wdeed g.c s .fill back m=(.non,{ s with con:=s.con + m }):=if_pos ⟨h1,h2⟩
        have d2:decide (m≤1000000)=true:=decide_eq_true h2
        rw [e] at q
        walk_at "rd"
        exact q sn _ But.put (Or.inl rfl) (W.putD (w':={ s with con:=s.con + m }) rfl)
      · have e:Sd.wdeed g.c s .fill back m=(.set,s):=if_neg fun z=>h2 z.2
        have d2:decide (m≤1000000)=false:=decide_eq_false h2
        rw [e] at q
        walk_at "rd"
        exact q sn _ But.refl (Or.inl rfl) W
    · have e:Sd.wdeed g.c s .fill back m=(.set,s):=if_neg fun z=>h1 z.1
      rw [e] at q
      walk_at "rd"
      exact q sn _ But.refl (Or.inl rfl) W
  | press =>
    obtain ⟨now,run,con,wai,ask,mis,tot,fre,sent⟩:=s
    have hw:H wd=some (.dK (worldK ⟨.ref dt,.ref rl,.int g.lock,.int g.dose,.int g.hold,.int now,.int con,.int wai,.int ask,.int mis,.int tot,.int fre,.bl run,.ref sn⟩)):=W.ob
    have no:∀ z:¬ (run=true∧1≤m∧m≤g.c.dose∧fre≤now),Sd.wdeed g.c ⟨now,run,con,wai,ask,mis,tot,fre,sent⟩ .press back m=(.lck,⟨now,run,con,wai,ask,mis,tot,fre,sent⟩):=fun z=>if_neg z
    cases run with
    | false =>
      rw [no (by simp)] at q
      walk_at "rd"
      exact q sn _ But.refl (Or.inl rfl) W
    | true =>
      by_cases m1:1≤m
      · by_cases m2:m≤g.dose
        · have d2:decide (m≤g.dose)=true:=decide_eq_true m2
          by_cases f1:now < fre
          · rw [no (fun z=>by have:=z.2.2.2;omega)] at q
            walk_at "rd"
            exact q sn _ But.refl (Or.inl rfl) W
          · have e:Sd.wdeed g.c ⟨now,true,con,wai,ask,mis,tot,fre,sent⟩ .press back m=(.non,⟨now,true,con,wai,ask + m,mis,tot,now + g.lock,sent⟩):=if_pos ⟨rfl,m1,m2,by show fre≤now;omega⟩
            rw [e] at q
            walk_at "rd"
            simp only [upd_upd]
            exact q sn _ But.put (Or.inl rfl) (W.putD (w':=⟨now,true,con,wai,ask + m,mis,tot,now + g.lock,sent⟩) rfl)
        · have d2:decide (m≤g.dose)=false:=decide_eq_false m2
          rw [no (fun z=>m2 z.2.2.1)] at q
          walk_at "rd"
          exact q sn _ But.refl (Or.inl rfl) W
      · rw [no (fun z=>m1 z.2.1)] at q
        walk_at "rd"
        exact q sn _ But.refl (Or.inl rfl) W
  | stop =>
    have hw:=W.ob
    have ed:decide (V.str (wdS .stop)=V.str (Str.ofString "start"))=false:=by decide
    have e1:({ s with run:=false,mis:=s.mis + s.wai + s.ask,wai:=0,ask:=0 }:Sd.S)=Sd.stopS s:=by unfold Sd.stopS;rw [Int.add_assoc]
    have W1:=W.putD (w':={ s with run:=false,mis:=s.mis + s.wai + s.ask,wai:=0,ask:=0 }) rfl
    walk_at "rd"
    simp only [upd_upd]
    rw [ed]
    refine q sn _ But.put (Or.inl rfl) ?_
    show WorldAt K _ wd dt dl rl sn ds rs g (Sd.stopS s)
    rw [← e1]
    exact W1
  | start =>
    have hw:=W.ob
    have ed:decide (V.str (wdS .start)=V.str (Str.ofString "start"))=true:=by decide
    walk_at "rd"
    rw [ed]
    exact q sn _ But.put (Or.inl rfl) (W.putD (w':=Sd.startS s) rfl)
end
end Sp

set_option Elab.async false
set_option linter.all false
set_option maxRecDepth 100000
set_option maxHeartbeats 4000000


namespace Sp
open PySem L2
section
variable {P:Program}{w:World}{K:PySem.W.Frag}{mg:Str→Option Value}{base:Heap}{CP CD CB CL CN CS CO:Addr}
noncomputable def wordsS:List Str:=["content", "waiting", "asked", "missed", "total"]
noncomputable def wfR (g:Cf) (s:Sd.S) (fre:Int) (dt rl sn:Addr):WF:=⟨.ref dt,.ref rl,.int g.lock,.int g.dose,.int g.hold,.int s.now,.int s.con,.int s.wai,.int s.ask,.int s.mis,.int s.tot,.int fre,.bl s.run,.ref sn⟩
theorem stV_get {g:Cf}{s:Sd.S}{fre:Int}{dt rl sn:Addr}:∀ {i:Nat}{x:V},(wordsS.map V.str)[i]?=some x→∃ (z:Str) (v:V),x=kV (Sum.inr z)∧valV (worldK (wfR g s fre dt rl sn)) (Sum.inr z:Key)=some v∧(stV s)[i]?=some v
  | 0,x,e=>⟨"content",_,(Option.some.inj e).symm,rfl,rfl⟩
  | 1,x,e=>⟨"waiting",_,(Option.some.inj e).symm,rfl,rfl⟩
  | 2,x,e=>⟨"asked",_,(Option.some.inj e).symm,rfl,rfl⟩
  | 3,x,e=>⟨"missed",_,(Option.some.inj e).symm,rfl,rfl⟩
  | 4,x,e=>⟨"total",_,(Option.some.inj e).symm,rfl,rfl⟩
  | i + 5,x,e=>by cases e
theorem stV_at {c:Sd.C}{s:Sd.S} (o:Sd.Ok c s) {i:Nat}{x:V} (h:(stV s)[i]?=some x):∃ n:Int,x = .int n∧0≤n:=by
  have hm:x ∈ stV s:=List.mem_of_getElem? h
  unfold stV at hm
  simp only [List.mem_cons,List.not_mem_nil,or_false] at hm
  rcases hm with h | h | h | h | h
  · exact ⟨_,h,o.con⟩
  · exact ⟨_,h,o.wai⟩
  · exact ⟨_,h,o.ask⟩
  · exact ⟨_,h,o.mis⟩
  · exact ⟨_,h,o.tot⟩
inductive SpSame (K:PySem.W.Frag) (CP CD:Addr) (vs:List V) (H:Hp) (Q:VK) (E:XK):Prop where
  | mk (p dx dy rl sn wd dt dl wrl wsn:Addr) (ds rs:List Addr) (g:Cf) (s w:Sd.S) (c0:vs = [.ref p,.ref wd]) (c1:Two K CP CD H p dx dy rl sn wd dt dl wrl wsn ds rs g s w) (c2:Sd.Rel g.c s w) (c3:g.Ok) (c4:Sd.Ok g.c s) (c5:∀ H',Same H H'→Q (.bl true) H'):SpSame K CP CD vs H Q E
noncomputable def spSame (K:PySem.W.Frag) (CP CD:Addr):Sp:=fun vs H Q E=>SpSame K CP CD vs H Q E
theorem scLsame:FnScope ["_law_pump", "_law_world", "_law_state", "_law_due_here"] ["_law_pump", "_law_world"] (defScope s_Lsame):=⟨rfl,rfl,rfl,by decide +kernel,rfl,by decide +kernel,by decide +kernel⟩
theorem ok_Lsame {f f1 f2 f3 f4 f5 f6 f7:Addr}{fd fd1 fd2 fd3 fd4 fd5 fd6 fd7:FuncData} (F:Fun K "_law_same" "_law_same" s_Lsame f fd) (Z:ZM mg) (TPump:TP K CP)
    (M_state:Mt P w K mg base CX0 1 "state" CP ["self"] (spState K CP CD) f1 fd1) (M_time:Mt P w K mg base CX0 1 "time" CP ["self"] (spTime K CP CD) f2 fd2) (M_is_running:Mt P w K mg base CX0 1 "is_running" CP ["self"] (spRun K CP CD) f3 fd3)
    (B_Lwhole:Fn P w K mg base CX0 1 "_law_whole" ["_law_found"] spWhole f4 fd4) (B_Lis:Fn P w K mg base CX0 1 "_law_is" ["_law_found", "_law_due_here"] spIs f5 fd5) (B_room:Fn P w K mg base CX0 3 "room" ["pump"] (spRoom K CP CD) f6 fd6)
    (B_Lroom:Fn P w K mg base CX0 1 "_law_room" ["_law_world"] (spLRoom K) f7 fd7):FnOk P w K mg base CX0 4 f fd ["_law_pump", "_law_world"] (spSame K CP CD):=by
  refine F.ok scLsame (fun vs H Q E h=>?_) (fun cdv A outer s₀ H vs Q E hr h=>?_)
  · obtain ⟨p,dx,dy,rl,sn,wd,dt,dl,wrl,wsn,ds,rs,g,s,w,rfl,_⟩:=h
    rfl
  obtain ⟨p,dx,dy,rl,sn,wd,dt,dl,wrl,wsn,ds,rs,g,s,w,rfl,T,R,og,ok,q⟩:=h
  have hu:=hu_of hr
  have hu0:=hr.units0
  have hob:=T.pa.ob
  have hw:H wd=some (.dK (worldK (wfR g s w.fre dt wrl wsn))):=by
    have:=T.wa.ob
    unfold wfOf at this
    rw [← R.now,← R.con,← R.wai,← R.ask,← R.mis,← R.tot,← R.run] at this
    exact this
  refine ⟨_,%[%[(2),_,_,_,_,scLsame.nd,rfl,(Or.inl rfl),(@pe_meth0 _ _ _ _ _ _ _ _ _ _ _ _ _ _ _ _ _ s!"0" M_state.cl M_state.mt M_state.ok s!"h" M_state.b .nil pass0 s!"g"),s!"g",s!"f"|12],%[%[(3),_,_,_,_,scLsame.nd,rfl,(Or.inl rfl),%[call_tuple_of,rfl,Z.tuple,s!"k",%[%[(defScope s_Lsame),_,(["_law_pump", "_law_world", "_law_state", "_law_due_here"]),(["_law_pump", "_law_world", "_law_state", "_law_due_here", "_law_word"]),(["_law_word"]),_,_,_,_,_,rfl,rfl,rfl,(.of s!"k"),(@pi_list _ _ _ _ %[%[s!"s",%[s!"s",%[s!"s",%[s!"s",%[s!"s",s!"n",s!"g"|0],s!"g"|0],s!"g"|0],s!"g"|0],s!"g"|0]|23]),takes_name,(fun _ _ _ _ _=>@pg_name _ _ (4) _ (show List.Nodup (["_law_pump", "_law_world", "_law_state", "_law_due_here", "_law_word"]:List Str) by decide +kernel) rfl (Or.inl rfl) s!"f"),(fun _ _ _ _ _=>@pif_nil _),(fun _ _ _ _ _=>(@pe_dget _ _ _ _ _ _ hu s!"1" s!"4" (fun _ _=>rfl))),s!"g"|22],s!"n",s!"g"|0],s!"d",s!"d",s!"g",rfl|16],s!"g",s!"f"|12],%[%[(PW.pt %[(@pt_not _ _ _ _ (@pt_val _ _ _ %[call_isT,rfl,Z.isinstance,s!"k",%[s!"2",%[(@pe_bltn _ _ (.ty "tuple") _ _ rfl Z.tuple s!"k" rfl s!"d" s!"d"),s!"n",s!"g"|0],s!"g"|0],s!"d",s!"d",s!"g",rfl|6] s!"g")),%[%[(op_ne_tup hu0),s!"2",s!"3",(nomark _)|9],(@pw_or1 _ _ _ _ (@pt_not _ _ _ _ (@pt_val _ _ _ %[(call_allL rfl),rfl,Z.all,s!"k",%[%[(defScope s_Lsame),_,(["_law_pump", "_law_world", "_law_state", "_law_due_here"]),(["_law_pump", "_law_world", "_law_state", "_law_due_here", "_law_one"]),(["_law_one"]),_,_,_,_,_,rfl,rfl,rfl,(.of s!"k"),(@pi_tup _ _ _ _ s!"2"),takes_name,(fun _ _ _ _ _=>@pg_name _ _ (4) _ (show List.Nodup (["_law_pump", "_law_world", "_law_state", "_law_due_here", "_law_one"]:List Str) by decide +kernel) rfl (Or.inl rfl) s!"f"),(fun _ _ _ _ _=>@pif_nil _),(fun _ _ _ _ _=>%[B_Lwhole.ok,s!"h",rfl,B_Lwhole.m,B_Lwhole.kp,B_Lwhole.b,.nil,pass0,%[s!"4",s!"n",s!"g"|0],s!"d",s!"g",rfl|1]),s!"g"|22],s!"n",s!"g"|0],s!"d",s!"d",s!"g",rfl|6] s!"g")))|21]|21]),%[%[(@pe_bl _ _ _ _)|11]|4],s!"z"|10],%[%[(PW.pt %[(@pt_not _ _ _ _ (@pt_val _ _ _ %[B_Lis.ok,s!"h",rfl,B_Lis.m,B_Lis.kp,B_Lis.b,.nil,pass0,%[(@pe_meth0 _ _ _ _ _ _ _ _ _ _ _ _ _ _ _ _ _ s!"0" M_time.cl M_time.mt M_time.ok s!"h" M_time.b .nil pass0 s!"g"),%[%[W_now,hu,s!"1"|7],s!"n",s!"g"|0],s!"g"|0],s!"d",s!"g",rfl|1] s!"g")),(@pw_or1 _ _ _ _ (@pt_not _ _ _ _ (@pt_val _ _ _ %[B_Lis.ok,s!"h",rfl,B_Lis.m,B_Lis.kp,B_Lis.b,.nil,pass0,%[(@pe_meth0 _ _ _ _ _ _ _ _ _ _ _ _ _ _ _ _ _ s!"0" M_is_running.cl M_is_running.mt M_is_running.ok s!"h" M_is_running.b .nil pass0 s!"g"),%[%[W_running,hu,s!"1"|7],s!"n",s!"g"|0],s!"g"|0],s!"d",s!"g",rfl|1] s!"g")))|21]),%[%[(@pe_bl _ _ _ _)|11]|4],s!"z"|10],%[%[%[B_Lis.ok,s!"h",rfl,B_Lis.m,B_Lis.kp,B_Lis.b,.nil,pass0,%[%[B_room.ok,s!"h",rfl,B_room.m,B_room.kp,B_room.b,.nil,pass0,%[s!"0",s!"n",s!"g"|0],s!"d",s!"g",rfl|1],%[%[B_Lroom.ok,s!"h",rfl,B_Lroom.m,B_Lroom.kp,B_Lroom.b,.nil,pass0,%[s!"1",s!"n",s!"g"|0],s!"d",s!"g",rfl|1],s!"n",s!"g"|0],s!"g"|0],s!"d",s!"g",rfl|1]|11]|4]|2]|2]|2]|2],?_⟩
  dsimp only [cxOf,Cx.nox]
  walk_at "rd"
  refine ⟨p,dx,dy,rl,sn,rs,g,s,rfl,T.pa,fun t1 H1 s1 nt1 ht1=>?_⟩
  have hw1:=s1 _ _ hw
  walk_at "rd"
  intro lw nlw
  have slw:=Same.new nlw (.lst (wordsS.map V.str))
  have hlw:(upd H1 lw (.lst (wordsS.map V.str))) lw=some (.lst (wordsS.map V.str)):=upd_same
  have hw2:=slw _ _ hw1
  have ht2:=slw _ _ ht1
  walk_at "rd"
  intro acc nac
  refine comp_list (xs:=wordsS.map V.str) (fun i ys H5=>ys=(stV s).take i∧Same (upd H1 lw (.lst (wordsS.map V.str))) H5∧H5 acc=some (.lst ys)) ?_ ?_ ?_ ?_
  · exact ⟨rfl,Same.new nac _,upd_same⟩
  · rintro i ys H5 _ ⟨_,s5,_⟩
    exact SqL.of (s5 _ _ hlw)
  · rintro i x ys H5 hi hx ⟨rfl,s5,hac⟩
    obtain ⟨z,v,rfl,hz,hv⟩:=stV_get (g:=g) (s:=s) (fre:=w.fre) (dt:=dt) (rl:=wrl) (sn:=wsn) hx
    have hw5:=s5 _ _ hw2
    have hi5:i < 5:=hi
    walk_at "rd"
    refine ⟨wd,v,rfl,hz ▸ DGet.k (k:=Sum.inr z) hw5,hac,small1000 (by rw [List.length_take];omega),cstep hi ⟨?_,s5.mut nac,upd_same⟩⟩
    rw [List.take_succ,hv]
    rfl
  · rintro ys H5 ⟨rfl,s5,hac⟩
    have hac:H5 acc=some (.lst (stV s)):=hac
    have ht5:=s5 _ _ ht2
    have hw5:=s5 _ _ hw2
    have s15:=(s1.trans slw).trans s5
    have T5:=T.same s15
    have hob5:=T5.pa.ob
    refine ⟨acc,stV s,rfl,Or.inl ⟨SqL.of hac,fun tp ntp=>?_⟩⟩
    have s6:=Same.new ntp (.tup (stV s))
    have htp:(upd H5 tp (.tup (stV s))) tp=some (.tup (stV s)):=upd_same
    have ht6:=s6 _ _ ht5
    have hw6:=s6 _ _ hw5
    have T6:=T5.same s6
    have s16:=s15.trans s6
    generalize upd H5 tp (.tup (stV s))=H6 at s6 htp ht6 hw6 T6 s16 ⊢
    have hob6:=T6.pa.ob
    have okV:okVs (stV s) (stV s)=true:=rfl
    have eqV':eqVs (stV s) (stV s)=true:=by
      unfold stV
      simp [eqVs,resP,eqV]
    walk_at "rd"
    refine ⟨.ref t1, "tuple",.type "tuple",true,rfl,.tup ht6,by unfold PySem.W.kitOne;rw [if_pos s!"d"],?_⟩
    have eqN:(if (true:Bool)=true then !eqVs (stV s) (stV s) else eqVs (stV s) (stV s))=false:=by rw [if_pos rfl,eqV'];rfl
    walk_at "rd"
    refine ⟨t1,tp,stV s,stV s,rfl,rfl,SqT.of ht6,SqT.of htp,rfl,okV,?_⟩
    rw [eqN]
    walk_at "rd"
    intro ac2 na2
    refine comp_tup (xs:=stV s) (fun i ys H7=>ys=(List.replicate i true).map V.bl∧Same H6 H7∧H7 ac2=some (.lst ys)) ?_ ?_ ?_ ?_
    · exact ⟨rfl,Same.new na2 _,upd_same⟩
    · rintro i ys H7 _ ⟨_,s7,_⟩
      exact SqT.of (s7 _ _ ht6)
    · rintro i x ys H7 hi hx ⟨rfl,s7,hac2⟩
      obtain ⟨n,rfl,hn0⟩:=stV_at ok hx
      have hi5:i < 5:=hi
      have hsz:((List.replicate i true).map V.bl).length < sizeLine:=by rw [List.length_map,List.length_replicate,sizeLine_eq];omega
      walk_at "rd"
      have e1:(List.replicate i true).map V.bl ++ [V.bl true]=(List.replicate (i + 1) true).map V.bl:=by
        rw [List.replicate_succ',List.map_append]
        rfl
      exact cstep hi ⟨e1,s7.mut na2,upd_same⟩
    · rintro ys H7 ⟨rfl,s7,hac2⟩
      have T7:=T6.same s7
      have hob7:=T7.pa.ob
      have hw7:=s7 _ _ hw6
      refine ⟨ac2,List.replicate 5 true,rfl,SqL.of hac2,?_⟩
      rw [show (List.replicate 5 true).all id=true from rfl]
      walk_at "rd"
      refine ⟨p,dx,dy,rl,sn,rs,g,s,rfl,T7.pa,?_⟩
      walk_at "rd"
      refine ⟨True.intro,?_⟩
      walk_at "rd"
      refine ⟨p,dx,dy,rl,sn,rs,g,s,rfl,T7.pa,?_⟩
      walk_at "rd"
      refine ⟨True.intro,?_⟩
      walk_at "rd"
      refine ⟨p,dx,dy,rl,sn,rs,g,s,rfl,T7.pa,og,fun H8 s8=>?_⟩
      have T8:=T7.same s8
      have rln:=og.r.ln
      walk_at "rd"
      refine ⟨wd,dt,wrl,wsn,rs,g,w,rfl,T8.wa.ob,T8.wa.rls,T8.wa.rt,by omega,by omega,T8.wa.se,fun H9 s9=>?_⟩
      have er:Sd.room g.rules w.sent=Sd.room g.rules s.sent:=(R.room og.good.win).symm
      rw [er]
      refine ⟨_,rfl,True.intro,?_⟩
      exact q _ (((s16.trans s7).trans s8).trans s9)
end
end Sp

set_option Elab.async false
set_option linter.all false
set_option maxRecDepth 100000
set_option maxHeartbeats 4000000


namespace Sp
open PySem L2
noncomputable def cnt (s:Sd.S):List Int:=[s.now,if s.run=true then 1 else 0,s.con,s.wai,s.ask,s.mis,s.tot,s.fre]
noncomputable def words9:List Str:=["now", "running", "content", "waiting", "asked", "missed", "total", "free", "sent"]
noncomputable def rows9 (s:Sd.S):List (List Int):=(cnt s).map (fun n=>[n]) ++ [s.sent]
noncomputable def lines9 (s:Sd.S):List Str:=List.zipWith Tx.line words9 (rows9 s)
structure Small (s:Sd.S):Prop where
  c:∀ n ∈ cnt s,0≤n∧n < 10 ^ 10
  st:∀ n ∈ s.sent,0≤n∧n < 10 ^ 10
  ln:s.sent.length≤1000
structure ZT (K:PySem.W.Frag) (mg:Str→Option Value) (aW:Addr):Prop where
  str:mg "str"=none
  zip:mg "zip"=none
  all:mg "all"=none
  len:mg "len"=none
  int:mg "int"=none
  list:mg "list"=none
  enumerate:mg "enumerate"=none
  FIGURES:∃ t,mg "FIGURES"=some (.str "0123456789" t)
  MOST_FIGURES:∃ t,mg "MOST_FIGURES"=some (.int 15 t)
  WORDS:mg "WORDS"=some (.ref aW)
  words:∀ H,SqT K H aW (words9.map V.str)
section
variable {P:Program}{w:World}{K:PySem.W.Frag}{mg:Str→Option Value}{base:Heap}{CP CD CB CL CN CS CO aW:Addr}
inductive SpCounts (K:PySem.W.Frag) (CP CD:Addr) (vs:List V) (H:Hp) (Q:VK) (E:XK):Prop where
  | mk (p dx dy rl sn:Addr) (rs:List Addr) (g:Cf) (s:Sd.S) (c0:vs = [.ref p]) (c1:PumpAt K CP CD H p dx dy rl sn rs g s) (c2:∀ l H',Same H H'→H l=none→H' l=some (.lst ((cnt s).map V.int))→Q (.ref l) H'):SpCounts K CP CD vs H Q E
noncomputable def spCounts (K:PySem.W.Frag) (CP CD:Addr):Sp:=fun vs H Q E=>SpCounts K CP CD vs H Q E
theorem sccounts:FnScope ["pump", "running"] ["pump"] (defScope s_counts):=⟨rfl,rfl,rfl,by decide +kernel,rfl,by decide +kernel,by decide +kernel⟩
theorem ok_counts {f:Addr}{fd:FuncData} (F:Fun K "counts" "counts" s_counts f fd) (TPump:TP K CP):FnOk P w K mg base CX0 1 f fd ["pump"] (spCounts K CP CD):=by
  refine F.ok sccounts (fun vs H Q E h=>?_) (fun cdv A outer s₀ H vs Q E hr h=>?_)
  · obtain ⟨p,dx,dy,rl,sn,rs,g,s,rfl,_⟩:=h
    rfl
  obtain ⟨p,dx,dy,rl,sn,rs,g,s,rfl,a,q⟩:=h
  have ho:=a.ob
  refine ⟨_,%[%[(1),_,_,_,_,sccounts.nd,rfl,(Or.inl rfl),(@pe_ifExp _ _ _ _ _ _ _ _ (@pt_truth _ _ _ %[FPump_running,TPump.cl,TPump.n_running,s!"0",s!"g"|5] (fun _=>rfl)) s!"i" s!"i"),s!"g",s!"f"|12],%[%[%[%[%[FPump_now,TPump.cl,TPump.n_now,s!"0",s!"g"|5],%[s!"1",%[%[FPump_content,TPump.cl,TPump.n_content,s!"0",s!"g"|5],%[%[FPump_waiting,TPump.cl,TPump.n_waiting,s!"0",s!"g"|5],%[%[FPump_asked,TPump.cl,TPump.n_asked,s!"0",s!"g"|5],%[%[FPump_missed,TPump.cl,TPump.n_missed,s!"0",s!"g"|5],%[%[FPump_total,TPump.cl,TPump.n_total,s!"0",s!"g"|5],%[%[FPump_free,TPump.cl,TPump.n_free,s!"0",s!"g"|5],s!"n",s!"g"|0],s!"g"|0],s!"g"|0],s!"g"|0],s!"g"|0],s!"g"|0],s!"g"|0],s!"g"|0]|23]|11]|4]|2],?_⟩
  walk_at "rd"
  by_cases hrun:s.run=true
  · refine Eq.mpr (if_pos hrun) ?_
    walk_at "rd"
    intro l nl
    refine q l _ (Same.new nl _) nl ?_
    rw [upd_same]
    unfold cnt
    rw [if_pos hrun]
    rfl
  · refine Eq.mpr (if_neg hrun) ?_
    walk_at "rd"
    intro l nl
    refine q l _ (Same.new nl _) nl ?_
    rw [upd_same]
    unfold cnt
    rw [if_neg hrun]
    rfl
noncomputable def spLine (K:PySem.W.Frag):Sp:=fun vs H Q _=>∃ (z:Str) (a:Addr) (ns:List Int),vs = [.str z,.ref a]∧SqL K H a (ns.map V.int)∧z.length≤10∧ns.length≤1000∧(∀ n ∈ ns,0≤n∧n < 10 ^ 10)∧∀ H',Same H H'→Q (.str (Tx.line z ns)) H'
theorem log_small {n:Int} (h0:0≤n) (h1:n < 10 ^ 10):n.natAbs.log2 < 1920:=by
  have:n.natAbs < 2 ^ 40:=by omega
  have h2:n.natAbs.log2 < 40:=by
    by_cases hz:n.natAbs=0
    · rw [hz];decide
    · exact (Nat.log2_lt hz).mpr this
  omega
theorem scline_of:FnScope ["word", "numbers"] ["word", "numbers"] (defScope s_line_of):=⟨rfl,rfl,rfl,by decide +kernel,rfl,by decide +kernel,by decide +kernel⟩
theorem ok_line_of {f:Addr}{fd:FuncData} (F:Fun K "line_of" "line_of" s_line_of f fd) (Z:ZT K mg aW):FnOk P w K mg base CX0 1 f fd ["word", "numbers"] (spLine K):=by
  refine F.ok scline_of (fun vs H Q E h=>?_) (fun cdv A outer s₀ H vs Q E hr h=>?_)
  · obtain ⟨z,a,ns,rfl,_⟩:=h
    rfl
  obtain ⟨z,a,ns,rfl,hS,hz,hn,hb,q⟩:=h
  refine ⟨_,%[%[%[PySem.F.plainAttrs_str,PySem.F.slot_str_join,PySem.F.type_str_join,mt_join,s!"s",%[%[op_cat,%[%[s!"0",s!"n",s!"g"|0]|23],%[(defScope s_line_of),_,(["word", "numbers"]),(["word", "numbers", "number"]),(["number"]),_,_,_,_,_,rfl,rfl,rfl,(.of s!"k"),(@pi_list _ _ _ _ s!"1"),takes_name,(fun _ _ _ _ _=>@pg_name _ _ (2) _ (show List.Nodup (["word", "numbers", "number"]:List Str) by decide +kernel) rfl (Or.inl rfl) s!"f"),(fun _ _ _ _ _=>@pif_nil _),(fun _ _ _ _ _=>%[call_str_int,rfl,Z.str,s!"k",%[s!"2",s!"n",s!"g"|0],s!"d",s!"d",s!"g",rfl|16]),s!"g"|22]|3],s!"n",s!"g"|0],s!"g",s!"g",s!"g",s!"g",s!"g"|20]|11]|4],?_⟩
  walk_at "rd"
  intro l1 n1
  have s1:=Same.new n1 (.lst [.str z])
  have h1:(upd H l1 (.lst [.str z])) l1=some (.lst ([z].map V.str)):=upd_same
  have hS1:=s1.seq hS
  generalize upd H l1 (.lst [.str z])=H1 at s1 h1 hS1 ⊢
  walk_at "rd"
  intro acc n2
  refine comp_list (xs:=ns.map V.int) (fun i ys H2=>ys=((ns.take i).map Tx.num).map V.str∧Same H1 H2∧H2 acc=some (.lst ys)) ?_ ?_ ?_ ?_
  · exact ⟨rfl,Same.new n2 _,upd_same⟩
  · rintro i ys H2 _ ⟨_,s2,_⟩
    exact s2.seq hS1
  · rintro i x ys H2 hi hx ⟨rfl,s2,hac⟩
    obtain ⟨n,en,rfl⟩:∃ n,ns[i]?=some n∧x = .int n:=by
      rw [List.getElem?_map] at hx
      cases e:ns[i]? with
      | none=>rw [e] at hx;cases hx
      | some n=>rw [e] at hx;exact ⟨n,rfl,(Option.some.inj hx).symm⟩
    have hnb:=hb n (List.mem_of_getElem? en)
    have hlg:=log_small hnb.1 hnb.2
    have hsz:(((ns.take i).map Tx.num).map V.str).length < sizeLine:=by
      rw [List.length_map,List.length_map,List.length_take,sizeLine_eq]
      omega
    walk_at "rd"
    refine cstep hi ⟨?_,s2.mut n2,upd_same⟩
    rw [List.take_succ,en,List.map_append,List.map_append]
    rfl
  · rintro ys H2 ⟨rfl,s2,hac⟩
    rw [List.length_map,List.take_length] at hac
    have h2:=s2 _ _ h1
    refine ⟨l1,acc,[z].map V.str,(ns.map Tx.num).map V.str,rfl,rfl,h2,hac,?_,fun l2 n3=>?_⟩
    · rw [List.length_map,List.length_map,List.length_map,sizeLine_eq]
      show 1 + _≤_
      omega
    refine ⟨_,l2,z :: ns.map Tx.num,rfl,rfl,by rw [upd_same,← List.map_append];rfl,?_,?_⟩
    · rw [Tx.sp_is]
      refine Tx.joinOk (fun t ht=>?_) (by rw [List.length_cons,List.length_map];omega)
      rcases List.mem_cons.mp ht with e | e
      · rw [e];exact hz
      · obtain ⟨n,hn',rfl⟩:=List.mem_map.mp e
        exact (Tx.num_len (hb n hn').1 (hb n hn').2).2
    · rw [Tx.sp_is]
      exact q _ ((s1.trans s2).trans (Same.new n3 _))
/-! ### saved -/
theorem cnt_len (s:Sd.S):(cnt s).length=8:=rfl
theorem words_short:∀ z ∈ words9,z.length≤10∧32 ∉ z.cps.toList:=by decide +kernel
theorem rows_len (s:Sd.S):(rows9 s).length=9:=by unfold rows9;rw [List.length_append,List.length_map,cnt_len];rfl
theorem rows_small {s:Sd.S} (m:Small s):∀ ns ∈ rows9 s,ns.length≤1000∧∀ n ∈ ns,0≤n∧n < 10 ^ 10:=fun ns h=>by
  unfold rows9 at h
  rcases List.mem_append.mp h with h | h
  · obtain ⟨n,hn,rfl⟩:=List.mem_map.mp h
    refine ⟨(show 1≤1000 by decide),fun k hk=>?_⟩
    rw [List.mem_singleton.mp hk]
    exact m.c n hn
  · rw [List.mem_singleton.mp h]
    exact ⟨m.ln,m.st⟩
structure RowsAt (H:Hp) (rr:List Addr) (rows:List (List Int)):Prop where
  len:rr.length=rows.length
  at_:∀ i r,rr[i]?=some r→H r=some (.lst ((rows.getD i []).map V.int))
theorem RowsAt.same {H H':Hp}{rr:List Addr}{rows:List (List Int)} (t:RowsAt H rr rows) (e:Same H H'):RowsAt H' rr rows:=⟨t.len,fun i r z=>e _ _ (t.at_ i r z)⟩
theorem RowsAt.app {H:Hp}{rr:List Addr}{rows:List (List Int)}{r:Addr}{ns:List Int} (t:RowsAt H rr rows) (h:H r=some (.lst (ns.map V.int))):RowsAt H (rr ++ [r]) (rows ++ [ns]):=by
  have hl:=t.len
  refine ⟨by simp [hl],fun i r' e=>?_⟩
  by_cases hi:i < rr.length
  · rw [List.getElem?_append_left hi] at e
    rw [List.getD_eq_getElem?_getD,List.getElem?_append_left (by omega),← List.getD_eq_getElem?_getD]
    exact t.at_ i r' e
  · have hlt:i < (rr ++ [r]).length:=(List.getElem?_eq_some_iff.mp e).1
    have hi':i=rr.length:=by rw [List.length_append] at hlt;simp at hlt;omega
    subst hi'
    rw [List.getElem?_append_right (Nat.le_refl _),Nat.sub_self] at e
    have e':r=r':=by simpa using e
    subst e'
    rw [List.getD_eq_getElem?_getD,hl,List.getElem?_append_right (Nat.le_refl _),Nat.sub_self]
    exact h
theorem RowsAt.mut {H:Hp}{rr:List Addr}{rows:List (List Int)}{b:Addr}{o:HO} (t:RowsAt H rr rows) (h:∀ r ∈ rr,r ≠ b):RowsAt (upd H b o) rr rows:=⟨t.len,fun i r z=>at_ne (h r (List.mem_of_getElem? z)) (t.at_ i r z)⟩
inductive SpSaved (K:PySem.W.Frag) (CP CD:Addr) (vs:List V) (H:Hp) (Q:VK) (E:XK):Prop where
  | mk (p dx dy rl sn:Addr) (rs:List Addr) (g:Cf) (s:Sd.S) (c0:vs = [.ref p]) (c1:PumpAt K CP CD H p dx dy rl sn rs g s) (c2:Small s) (c3:∀ l H',Same H H'→H l=none→H' l=some (.lst ((lines9 s).map V.str))→Q (.ref l) H'):SpSaved K CP CD vs H Q E
noncomputable def spSaved (K:PySem.W.Frag) (CP CD:Addr):Sp:=fun vs H Q E=>SpSaved K CP CD vs H Q E
theorem scsaved:FnScope ["pump", "rows"] ["pump"] (defScope s_saved):=⟨rfl,rfl,rfl,by decide +kernel,rfl,by decide +kernel,by decide +kernel⟩
theorem ok_saved {f f1 f2:Addr}{fd fd1 fd2:FuncData} (F:Fun K "saved" "saved" s_saved f fd) (TPump:TP K CP) (Z:ZT K mg aW) (B_counts:Fn P w K mg base CX0 1 "counts" ["pump"] (spCounts K CP CD) f1 fd1) (B_line_of:Fn P w K mg base CX0 1 "line_of" ["word", "numbers"] (spLine K) f2 fd2):FnOk P w K mg base CX0 2 f fd ["pump"] (spSaved K CP CD):=by
  refine F.ok scsaved (fun vs H Q E h=>?_) (fun cdv A outer s₀ H vs Q E hr h=>?_)
  · obtain ⟨p,dx,dy,rl,sn,rs,g,s,rfl,_⟩:=h
    rfl
  obtain ⟨p,dx,dy,rl,sn,rs,g,s,rfl,a,sm,q⟩:=h
  have ho:=a.ob
  refine ⟨_,%[%[(1),_,_,_,_,scsaved.nd,rfl,(Or.inl rfl),%[op_cat,%[(defScope s_saved),_,(["pump", "rows"]),(["pump", "rows", "number"]),(["number"]),_,_,_,_,_,rfl,rfl,rfl,(.of s!"k"),(@pi_list _ _ _ _ %[B_counts.ok,s!"h",rfl,B_counts.m,B_counts.kp,B_counts.b,.nil,pass0,%[s!"0",s!"n",s!"g"|0],s!"d",s!"g",rfl|1]),takes_name,(fun _ _ _ _ _=>@pg_name _ _ (2) _ (show List.Nodup (["pump", "rows", "number"]:List Str) by decide +kernel) rfl (Or.inl rfl) s!"f"),(fun _ _ _ _ _=>@pif_nil _),(fun _ _ _ _ _=>%[%[s!"2",s!"n",s!"g"|0]|23]),s!"g"|22],%[%[%[FPump_sent,TPump.cl,TPump.n_sent,s!"0",s!"g"|5],s!"n",s!"g"|0]|23]|3],s!"g",s!"f"|12],%[%[%[(defScope s_saved),_,(["pump", "rows"]),(["pump", "rows", "word", "numbers"]),(["word", "numbers"]),_,_,_,_,_,rfl,rfl,rfl,(.of s!"k"),(@pi_zipT _ _ _ _ _ _ _ _ _ rfl Z.zip %[(@pe_glob _ _ (.ref _) _ _ rfl Z.WORDS rfl s!"d"),%[s!"1",s!"n",s!"g"|0],s!"g"|0] s!"g" s!"g"),takes_two,(fun _ _ _ _ _=>@pg_tup _ _ _ _ _ _ rfl (@pgs_cons _ _ _ _ _ (@pg_name _ _ (2) _ (show List.Nodup (["pump", "rows", "word", "numbers"]:List Str) by decide +kernel) rfl (Or.inl rfl) s!"f") (@pgs_cons _ _ _ _ _ (@pg_name _ _ (3) _ (show List.Nodup (["pump", "rows", "word", "numbers"]:List Str) by decide +kernel) rfl (Or.inl rfl) s!"f") (@pgs_nil _) s!"g") s!"g") (by rfl) (by rfl)),(fun _ _ _ _ _=>@pif_nil _),(fun _ _ _ _ _=>%[B_line_of.ok,s!"h",rfl,B_line_of.m,B_line_of.kp,B_line_of.b,.nil,pass0,%[s!"2",%[s!"3",s!"n",s!"g"|0],s!"g"|0],s!"d",s!"g",rfl|1]),s!"g"|22]|11]|4]|2],?_⟩
  walk_at "rd"
  refine ⟨p,dx,dy,rl,sn,rs,g,s,rfl,a,fun lc H1 s1 nlc hlc=>?_⟩
  have a1:=a.same s1
  have ho1:=a1.ob
  walk_at "rd"
  intro acc n1
  have neS:sn ≠ acc:=ne_of_none a1.se n1
  refine comp_list (xs:=(cnt s).map V.int) (fun i ys H2=>∃ rr:List Addr,ys=rr.map V.ref∧RowsAt H2 rr (((cnt s).take i).map fun n=>[n])∧(∀ r ∈ rr,r ≠ acc)∧Same H1 H2∧H2 acc=some (.lst ys)) ?_ ?_ ?_ ?_
  · exact ⟨[],rfl,⟨rfl,fun i r z=>by simp at z⟩,fun r h=>by simp at h,Same.new n1 _,upd_same⟩
  · rintro i ys H2 _ ⟨_,_,_,_,s2,_⟩
    exact SqL.of (s2 _ _ hlc)
  · rintro i x ys H2 hi hx ⟨rr,rfl,hR,hne,s2,hac⟩
    obtain ⟨n,en,rfl⟩:∃ n,(cnt s)[i]?=some n∧x = .int n:=by
      rw [List.getElem?_map] at hx
      cases e:(cnt s)[i]? with
      | none=>rw [e] at hx;cases hx
      | some n=>rw [e] at hx;exact ⟨n,rfl,(Option.some.inj hx).symm⟩
    have hi8:i < 8:=by rw [List.length_map,cnt_len] at hi;exact hi
    have hrl:=hR.len
    rw [List.length_map,List.length_take,cnt_len] at hrl
    have hsz:(rr.map V.ref).length < sizeLine:=by rw [List.length_map,sizeLine_eq];omega
    walk_at "rd"
    intro lt nlt
    have nla:lt ≠ acc:=(ne_of_none hac nlt).symm
    have hac':=at_new (o:=.lst [.int n]) nlt hac
    refine ⟨hac',hsz,cstep hi ⟨rr ++ [lt],by rw [List.map_append];rfl,?_,fun r h=>?_,(s2.trans (Same.new nlt _)).mut n1,upd_same⟩⟩
    · have e2:((cnt s).take (i + 1)).map (fun n=>[n])=((cnt s).take i).map (fun n=>[n]) ++ [[n]]:=by
        rw [List.take_succ,en,List.map_append]
        rfl
      rw [e2]
      refine RowsAt.mut ((hR.same (Same.new nlt _)).app upd_same) fun r h=>?_
      rcases List.mem_append.mp h with h | h
      · exact hne r h
      · rw [List.mem_singleton.mp h];exact nla
    · rcases List.mem_append.mp h with h | h
      · exact hne r h
      · rw [List.mem_singleton.mp h];exact nla
  · rintro ys H2 ⟨rr,rfl,hR,hne,s2,hac⟩
    rw [List.length_map,List.take_length] at hR
    have a2:=a1.same s2
    have ho2:=a2.ob
    have hrl:=hR.len
    rw [List.length_map,cnt_len] at hrl
    walk_at "rd"
    intro l2 n2
    show rCat (.ref acc) (.ref l2) (upd H2 l2 (.lst [.ref sn])) _
    have s3:=Same.new n2 (.lst [.ref sn])
    have hac3:=s3 _ _ hac
    have hR3:=(hR.same s3).app (r:=sn) (ns:=s.sent) (s3 _ _ a2.se)
    refine ⟨acc,l2,rr.map V.ref,[.ref sn],rfl,rfl,hac3,upd_same,by rw [List.length_map,sizeLine_eq,hrl];show 8 + 1≤_;decide,fun l3 n3=>?_⟩
    have s4:=Same.new n3 (.lst (rr.map V.ref ++ [.ref sn]))
    have hl3:(upd (upd H2 l2 (.lst [.ref sn])) l3 (.lst (rr.map V.ref ++ [.ref sn]))) l3=some (.lst ((rr ++ [sn]).map V.ref)):=by rw [upd_same,List.map_append];rfl
    have hR4:=hR3.same s4
    have sA:=((s1.trans s2).trans s3).trans s4
    have eR:(cnt s).map (fun n=>[n]) ++ [s.sent]=rows9 s:=rfl
    rw [eR] at hR4
    generalize upd (upd H2 l2 (.lst [.ref sn])) l3 (.lst (rr.map V.ref ++ [.ref sn]))=H4 at hl3 hR4 sA ⊢
    have hr9:=rows_len s
    have hl9:=hR4.len
    have hW:=Z.words H4
    walk_at "rd"
    intro ac2 na2
    refine comp_zt (xs:=words9.map V.str) (ws:=(rr ++ [sn]).map V.ref) (fun i ys H5=>ys=((lines9 s).take i).map V.str∧Same H4 H5∧H5 ac2=some (.lst ys)) ?_ ?_ ?_ ?_ ?_
    · exact ⟨rfl,Same.new na2 _,upd_same⟩
    · rintro i ys H5 _ ⟨_,s5,_⟩
      exact ⟨Z.words _,SqL.of (s5 _ _ hl3)⟩
    · rw [List.length_map,List.length_map,hl9,hr9];rfl
    · rintro i x y T ys H5 hi hx hy ⟨rfl,s5,hac2⟩ nT
      have hi9:i < 9:=hi
      have hiw:i < words9.length:=hi9
      have hir:i < (rows9 s).length:=by omega
      obtain ⟨r,er,rfl⟩:∃ r,(rr ++ [sn])[i]?=some r∧y = .ref r:=by
        rw [List.getElem?_map] at hy
        cases e:(rr ++ [sn])[i]? with
        | none=>rw [e] at hy;cases hy
        | some r=>rw [e] at hy;exact ⟨r,rfl,(Option.some.inj hy).symm⟩
      obtain ⟨z,ez,rfl⟩:∃ z,words9[i]?=some z∧x = .str z:=by
        rw [List.getElem?_map] at hx
        cases e:words9[i]? with
        | none=>rw [e] at hx;cases hx
        | some z=>rw [e] at hx;exact ⟨z,rfl,(Option.some.inj hx).symm⟩
      obtain ⟨ns,en⟩:∃ ns,(rows9 s)[i]?=some ns:=⟨_,List.getElem?_eq_getElem hir⟩
      have hrow:H4 r=some (.lst (ns.map V.int)):=by
        have:=hR4.at_ i r er
        rw [List.getD_eq_getElem?_getD,en] at this
        exact this
      have hz:=words_short z (List.mem_of_getElem? ez)
      have hns:=rows_small sm ns (List.mem_of_getElem? en)
      have s6:=s5.trans (Same.new nT (.tup [.str z,.ref r]))
      have hac3':=at_new (o:=.tup [.str z,.ref r]) nT hac2
      have hsz:(((lines9 s).take i).map V.str).length < sizeLine:=by rw [List.length_map,List.length_take,sizeLine_eq];omega
      have hr6:=s6 _ _ hrow
      have el:(lines9 s)[i]?=some (Tx.line z ns):=by
        unfold lines9
        rw [List.getElem?_zipWith,ez,en]
      walk_at "rd"
      refine ⟨hns.2,fun H7 s7=>⟨s7 _ _ hac3',hsz,cstep hi ⟨?_,(s6.trans s7).mut na2,upd_same⟩⟩⟩
      rw [List.take_succ,el,List.map_append]
      rfl
    · rintro ys H5 ⟨rfl,s5,hac2⟩
      have e:(lines9 s).take (words9.map V.str).length=lines9 s:=List.take_of_length_le (by unfold lines9;rw [List.length_zipWith,List.length_map];exact Nat.min_le_left _ _)
      rw [e] at hac2
      exact q ac2 _ (sA.trans s5) (sA.free na2) hac2
end
end Sp

set_option Elab.async false
set_option linter.all false
set_option maxRecDepth 100000
set_option maxHeartbeats 4000000
namespace Sp
open PySem L2
theorem due_le {ticks:Int}{ps:List Part} (o:DayM.Ok ticks ps) {t:Int}:DayM.due ticks ps t≤1000000:=by
  have t1:=o.t1
  have m0:=Int.emod_nonneg t (show ticks ≠ 0 by omega)
  have pl:=DayM.plc_is o m0
  have hb:=o.b _ pl.lt
  unfold DayM.due DayM.dw
  generalize ps.getD (DayM.plc ps (t % ticks)) DayM.nil3=q at hb
  have e:q.2.1 * (t % ticks + 1 - q.1)=q.2.1 * (t % ticks - q.1) + q.2.1:=by rw [show t % ticks + 1 - q.1=(t % ticks - q.1) + 1 by omega,Int.mul_add,Int.mul_one]
  have h1:q.2.1 * (t % ticks + 1 - q.1) / q.2.2≤q.2.1 * (t % ticks - q.1) / q.2.2 + q.2.1:=by
    rw [e,← Int.add_mul_ediv_right _ q.2.1 (show q.2.2 ≠ 0 by omega)]
    refine Int.ediv_le_ediv (by omega) ?_
    have:q.2.1 * 1≤q.2.1 * q.2.2:=Int.mul_le_mul_of_nonneg_left (by omega) hb.2.1
    omega
  omega
theorem small_of {g:Cf}{s:Sd.S}{out:List Int}{fl wa:Int} (o:g.Ok) (k:Sd.Ok g.c s) (b:Sd.Book g.c s out fl wa) (hf:fl≤1000000000) (hw:wa≤1000000000) (hl:out.length≤1000):Small s:=by
  have h1:=k.now
  have h2:=k.con
  have h3:=k.wai
  have h4:=k.ask
  have h5:=k.mis
  have h6:=k.tot
  have h7:=k.fre
  have e1:=b.f
  have e2:=b.w
  have e3:=b.nw
  refine ⟨fun n hn=>?_,fun n hn=>?_,sent_len o k⟩
  · unfold cnt at hn
    simp only [List.mem_cons,List.not_mem_nil,or_false] at hn
    have:0≤(if s.run=true then (1:Int) else 0)∧(if s.run=true then (1:Int) else 0)≤1:=by split <;> decide
    omega
  · have:=k.all n hn
    omega
end Sp

set_option Elab.async false
set_option linter.all false
set_option maxRecDepth 100000
set_option maxHeartbeats 4000000


namespace Sp
open PySem L2
section
variable {P:Program}{w:World}{K:PySem.W.Frag}{mg:Str→Option Value}{base:Heap}{CP CD CB CL CN CS CO aW:Addr}
noncomputable def spIsNum:Sp:=fun vs H Q _=>∃ n:Int,vs = [.str (Tx.num n)]∧0≤n∧n < 10 ^ 10∧∀ H',Same H H'→Q (.bl true) H'
theorem scis_number:FnScope ["text"] ["text"] (defScope s_is_number):=⟨rfl,rfl,rfl,by decide +kernel,rfl,by decide +kernel,by decide +kernel⟩
theorem ok_is_number {f:Addr}{fd:FuncData} (F:Fun K "is_number" "is_number" s_is_number f fd) (Z:ZT K mg aW):FnOk P w K mg base CX0 1 f fd ["text"] spIsNum:=by
  refine F.ok scis_number (fun vs H Q E h=>?_) (fun cdv A outer s₀ H vs Q E hr h=>?_)
  · obtain ⟨n,rfl,_⟩:=h
    rfl
  obtain ⟨n,rfl,h0,h1,q⟩:=h
  obtain ⟨l1,l2⟩:=Tx.num_len h0 h1
  have hsl:(Tx.num n).length≤sizeLine:=by rw [sizeLine_eq];omega
  obtain ⟨c,hc⟩:∃ c,(Tx.num n).cps.toList[0]?=some c:=⟨_,List.getElem?_eq_getElem (by rw [show (Tx.num n).cps.toList.length=(Tx.num n).length from by simp [Str.length]];omega)⟩
  have hat:atI (Tx.num n).cps.toList 0=some c:=by
    have q:atI (Tx.num n).cps.toList ((0:Nat):Int)=some c:=atI_nat hc
    exact q
  refine ⟨_,%[%[(PW.pt %[%[op_lt,%[call_len_str,rfl,Z.len,s!"k",%[s!"0",s!"n",s!"g"|0],s!"d",s!"d",s!"g",rfl|6],s!"i",(nomark _)|9],(@pw_or1 _ _ _ _ %[op_gt,%[call_len_str,rfl,Z.len,s!"k",%[s!"0",s!"n",s!"g"|0],s!"d",s!"d",s!"g",rfl|6],(@pe_globI _ _ (15) _ rfl Z.MOST_FIGURES s!"d"),(nomark _)|9])|21]),%[%[(@pe_bl _ _ _ _)|11]|4],s!"z"|10],%[(@ps_cut _ _ _ %[(PW.pt (@pw_and _ _ _ _ _ _ _ %[op_eq,%[ix_str,s!"0",s!"i",(fun _ _=>rfl)|8],s!"s",(nomark _)|9] (@pw_and1 _ _ _ _ %[op_gt,%[call_len_str,rfl,Z.len,s!"k",%[s!"0",s!"n",s!"g"|0],s!"d",s!"d",s!"g",rfl|6],s!"i",(nomark _)|9]))),%[%[(@pe_bl _ _ _ _)|11]|4],s!"z"|10]),%[%[%[(call_allL rfl),rfl,Z.all,s!"k",%[%[(defScope s_is_number),_,(["text"]),(["text", "sign"]),(["sign"]),_,_,_,_,_,rfl,rfl,rfl,(.of s!"k"),(@pi_str _ _ _ _ s!"0"),takes_name,(fun _ _ _ _ _=>@pg_name _ _ (1) _ (show List.Nodup (["text", "sign"]:List Str) by decide +kernel) rfl (Or.inl rfl) s!"f"),(fun _ _ _ _ _=>@pif_nil _),(fun _ _ _ _ _=>(@pe_cmpR _ _ _ _ _ _ _ _ op_in_str s!"1" (@pe_globS _ _ ("0123456789") _ rfl Z.FIGURES s!"d") (by with_unfolding_all rfl))),s!"g"|22],s!"n",s!"g"|0],s!"d",s!"d",s!"g",rfl|6]|11]|4]|2]|2],?_⟩
  have hall:∀ k,(List.replicate k true).all id=true:=fun k=>by simp
  walk_at "rd"
  refine ⟨fun σ' H'=>σ' = [some (.str (Tx.num n))]∧H'=H,?_,?_⟩
  · walk_at "rd"
    refine ⟨Tx.num n,0,c,rfl,rfl,hsl,hat,?_⟩
    by_cases h48:c=48
    · subst h48
      have hn0:=Tx.num_first h0 hc rfl
      subst hn0
      have e1:(Tx.num 0).length=1:=by rw [Tx.num_zero];rfl
      have ed:decide (V.str ⟨#[48]⟩=V.str (Str.ofString "0"))=true:=by decide
      walk_at "rd"
      rfl
    · have ed:decide (V.str ⟨#[c]⟩=V.str (Str.ofString "0"))=false:=by
        refine decide_eq_false fun z=>h48 ?_
        have z:=V.str.inj z
        rw [show Str.ofString "0"=⟨#[48]⟩ by decide +kernel] at z
        cases z
        rfl
      walk_at "rd"
      rw [ed]
      walk_at "rd"
      rfl
  rintro σ' H' ⟨rfl,rfl⟩
  walk_at "rd"
  intro acc n1
  refine comp_str (z:=Tx.num n) (fun i ys H2=>ys=(List.replicate i true).map V.bl∧Same H' H2∧H2 acc=some (.lst ys)) ?_ ?_ ?_
  · exact ⟨rfl,Same.new n1 _,upd_same⟩
  · rintro i d ys H2 hi hd ⟨rfl,s2,hac⟩
    have hdd:=Tx.num_digit h0 hd
    have hf:=Tx.fig d hdd
    have hsz:((List.replicate i true).map V.bl).length < sizeLine:=by
      rw [List.length_map,List.length_replicate]
      have:(Tx.num n).cps.size=(Tx.num n).length:=rfl
      omega
    walk_at "rd"
    rw [hf]
    refine cstep hi ⟨?_,s2.mut n1,upd_same⟩
    rw [List.replicate_succ',List.map_append]
    rfl
  · rintro ys H2 ⟨rfl,s2,hac⟩
    refine ⟨acc,List.replicate (Tx.num n).cps.size true,rfl,SqL.of hac,?_⟩
    rw [hall]
    exact q H2 s2
/-! ### the numbers of a line -/
noncomputable def spNums (K:PySem.W.Frag):Sp:=fun vs H Q _=>∃ (z:Str) (ns:List Int),vs = [.str z,.str (Tx.line z ns)]∧z.length≤10∧32 ∉ z.cps.toList∧ns.length≤1000∧(∀ n ∈ ns,0≤n∧n < 10 ^ 10)∧∀ l H',Same H H'→H l=none→H' l=some (.lst (ns.map V.int))→Q (.ref l) H'
theorem scnumbers_of:FnScope ["word", "line", "pieces", "texts"] ["word", "line"] (defScope s_numbers_of):=⟨rfl,rfl,rfl,by decide +kernel,rfl,by decide +kernel,by decide +kernel⟩
theorem ok_numbers_of {f f1:Addr}{fd fd1:FuncData} (F:Fun K "numbers_of" "numbers_of" s_numbers_of f fd) (Z:ZT K mg aW) (B_is_number:Fn P w K mg base CX0 1 "is_number" ["text"] spIsNum f1 fd1):FnOk P w K mg base CX0 2 f fd ["word", "line"] (spNums K):=by
  refine F.ok scnumbers_of (fun vs H Q E h=>?_) (fun cdv A outer s₀ H vs Q E hr h=>?_)
  · obtain ⟨z,ns,rfl,_⟩:=h
    rfl
  obtain ⟨z,ns,rfl,hz,hz2,hl,hb,q⟩:=h
  have hsp:=Tx.split_line (w:=z) (ns:=ns) hz2 fun n h=>(hb n h).1
  have hll:=Tx.line_len (w:=z) (ns:=ns) hz hb
  refine ⟨_,%[%[(2),_,_,_,_,scnumbers_of.nd,rfl,(Or.inl rfl),%[PySem.F.plainAttrs_str,PySem.F.slot_str_split,PySem.F.type_str_split,mt_split,s!"1",%[s!"s",s!"n",s!"g"|0],s!"g",s!"g",s!"g",s!"g",s!"g"|20],s!"g",s!"f"|12],%[%[(3),_,_,_,_,scnumbers_of.nd,rfl,(Or.inl rfl),(@pe_slice _ _ _ _ _ _ _ _ _ _ sl_list s!"2" (@po_some _ _ _ s!"i") (@po_none _)),s!"g",s!"f"|12],%[%[(PW.pt %[%[op_ne,%[ix_list,s!"2",s!"i",(fun _ _=>rfl)|8],s!"0",(nomark _)|9],(@pw_or1 _ _ _ _ (@pt_not _ _ _ _ (@pt_val _ _ _ %[(call_allL rfl),rfl,Z.all,s!"k",%[%[(defScope s_numbers_of),_,(["word", "line", "pieces", "texts"]),(["word", "line", "pieces", "texts", "text"]),(["text"]),_,_,_,_,_,rfl,rfl,rfl,(.of s!"k"),(@pi_list _ _ _ _ s!"3"),takes_name,(fun _ _ _ _ _=>@pg_name _ _ (4) _ (show List.Nodup (["word", "line", "pieces", "texts", "text"]:List Str) by decide +kernel) rfl (Or.inl rfl) s!"f"),(fun _ _ _ _ _=>@pif_nil _),(fun _ _ _ _ _=>%[B_is_number.ok,s!"h",rfl,B_is_number.m,B_is_number.kp,B_is_number.b,.nil,pass0,%[s!"4",s!"n",s!"g"|0],s!"d",s!"g",rfl|1]),s!"g"|22],s!"n",s!"g"|0],s!"d",s!"d",s!"g",rfl|6] s!"g")))|21]),%[%[(@pe_non _ _ _)|11]|4],s!"z"|10],%[%[%[(defScope s_numbers_of),_,(["word", "line", "pieces", "texts"]),(["word", "line", "pieces", "texts", "text"]),(["text"]),_,_,_,_,_,rfl,rfl,rfl,(.of s!"k"),(@pi_list _ _ _ _ s!"3"),takes_name,(fun _ _ _ _ _=>@pg_name _ _ (4) _ (show List.Nodup (["word", "line", "pieces", "texts", "text"]:List Str) by decide +kernel) rfl (Or.inl rfl) s!"f"),(fun _ _ _ _ _=>@pif_nil _),(fun _ _ _ _ _=>%[call_intS,rfl,Z.int,s!"k",%[s!"4",s!"n",s!"g"|0],s!"d",s!"d",s!"g",rfl|16]),s!"g"|22]|11]|4]|2]|2]|2],?_⟩
  have hall:∀ k,(List.replicate k true).all id=true:=fun k=>by simp
  walk_at "rd"
  intro lp np
  rw [Tx.sp_is,hsp]
  have s1:=Same.new np (.lst ((z :: ns.map Tx.num).map V.str))
  have hp1:(upd H lp (.lst ((z :: ns.map Tx.num).map V.str))) lp=some (.lst ((z :: ns.map Tx.num).map V.str)):=upd_same
  generalize upd H lp (.lst ((z :: ns.map Tx.num).map V.str))=H1 at s1 hp1 ⊢
  have a0:atI ((z :: ns.map Tx.num).map V.str) 0=some (.str z):=by
    have q:atI ((z :: ns.map Tx.num).map V.str) ((0:Nat):Int)=some (.str z):=atI_nat rfl
    exact q
  walk_at "rd"
  refine ⟨lp,_,rfl,SqL.of hp1,fun lt nt=>?_⟩
  have e1:cutV ((z :: ns.map Tx.num).map V.str) (some 1) none=(ns.map Tx.num).map V.str:=by
    have:=cut_from (xs:=(z :: ns.map Tx.num).map V.str) (k:=1)
    exact this
  rw [e1]
  have s2:=Same.new nt (.lst ((ns.map Tx.num).map V.str))
  have hp2:=s2 _ _ hp1
  have ht2:(upd H1 lt (.lst ((ns.map Tx.num).map V.str))) lt=some (.lst ((ns.map Tx.num).map V.str)):=upd_same
  generalize upd H1 lt (.lst ((ns.map Tx.num).map V.str))=H2 at s2 hp2 ht2 ⊢
  have en:decide (V.str z=V.str z)=true:=decide_eq_true rfl
  have getN:∀ {i:Nat}{x:V},((ns.map Tx.num).map V.str)[i]?=some x→∃ n,ns[i]?=some n∧x = .str (Tx.num n):=fun {i x} hx=>by
    rw [List.getElem?_map,List.getElem?_map] at hx
    cases e:ns[i]? with
    | none=>rw [e] at hx;cases hx
    | some n=>rw [e] at hx;exact ⟨n,rfl,(Option.some.inj hx).symm⟩
  have hll2:((ns.map Tx.num).map V.str).length=ns.length:=by rw [List.length_map,List.length_map]
  walk_at "rd"
  intro acc n3
  refine comp_list (xs:=(ns.map Tx.num).map V.str) (fun i ys H3=>ys=(List.replicate i true).map V.bl∧Same H2 H3∧H3 acc=some (.lst ys)) ?_ ?_ ?_ ?_
  · exact ⟨rfl,Same.new n3 _,upd_same⟩
  · rintro i ys H3 _ ⟨_,s3,_⟩
    exact SqL.of (s3 _ _ ht2)
  · rintro i x ys H3 hi hx ⟨rfl,s3,hac⟩
    obtain ⟨n,en',rfl⟩:=getN hx
    have hnb:=hb n (List.mem_of_getElem? en')
    have hsz:((List.replicate i true).map V.bl).length < sizeLine:=by rw [List.length_map,List.length_replicate,sizeLine_eq];omega
    walk_at "rd"
    rename_i H4 s4
    refine ⟨s4 _ _ hac,hsz,cstep hi ⟨?_,(s3.trans s4).mut n3,upd_same⟩⟩
    rw [List.replicate_succ',List.map_append]
    rfl
  · rintro ys H3 ⟨rfl,s3,hac⟩
    have ht3:=s3 _ _ ht2
    refine ⟨acc,List.replicate ((ns.map Tx.num).map V.str).length true,rfl,SqL.of hac,?_⟩
    rw [hall]
    walk_at "rd"
    intro ac2 n4
    refine comp_list (xs:=(ns.map Tx.num).map V.str) (fun i ys H4=>ys=(ns.take i).map V.int∧Same H3 H4∧H4 ac2=some (.lst ys)) ?_ ?_ ?_ ?_
    · exact ⟨rfl,Same.new n4 _,upd_same⟩
    · rintro i ys H4 _ ⟨_,s4,_⟩
      exact SqL.of (s4 _ _ ht3)
    · rintro i x ys H4 hi hx ⟨rfl,s4,hac2⟩
      obtain ⟨n,en',rfl⟩:=getN hx
      have hnb:=hb n (List.mem_of_getElem? en')
      have hsz:((ns.take i).map V.int).length < sizeLine:=by rw [List.length_map,List.length_take,sizeLine_eq];omega
      have hrd:=Tx.num_reads hnb.1 hnb.2
      have hln:=(Tx.num_len hnb.1 hnb.2).2
      walk_at "rd"
      refine cstep hi ⟨?_,s4.mut n4,upd_same⟩
      rw [List.take_succ,en',List.map_append]
      rfl
    · rintro ys H4 ⟨rfl,s4,hac2⟩
      rw [hll2,List.take_length] at hac2
      exact q ac2 _ ((((s1.trans s2).trans s3).trans s4)) ((((s1.trans s2).trans s3)).free n4) hac2
/-! ### whether the numbers may stand there -/
noncomputable def fitOk (z:Str) (ns:List Int) (L:Int):Prop:=(z = "sent"∧(ns.length:Int)≤L) ∨ (z = "running"∧(ns = [0] ∨ ns = [1])) ∨ (z ≠ "sent"∧z ≠ "running"∧ns.length=1)
noncomputable def spFits (K:PySem.W.Frag):Sp:=fun vs H Q _=>∃ (z:Str) (a:Addr) (ns:List Int) (L:Int),vs = [.str z,.ref a,.int L]∧H a=some (.lst (ns.map V.int))∧fitOk z ns L∧∀ H',Same H H'→Q (.bl true) H'
theorem scfits:FnScope ["word", "numbers", "longest"] ["word", "numbers", "longest"] (defScope s_fits):=⟨rfl,rfl,rfl,by decide +kernel,rfl,by decide +kernel,by decide +kernel⟩
theorem ok_fits {f:Addr}{fd:FuncData} (F:Fun K "fits" "fits" s_fits f fd) (Z:ZT K mg aW):FnOk P w K mg base CX0 1 f fd ["word", "numbers", "longest"] (spFits K):=by
  refine F.ok scfits (fun vs H Q E h=>?_) (fun cdv A outer s₀ H vs Q E hr h=>?_)
  · obtain ⟨z,a,ns,L,rfl,_⟩:=h
    rfl
  obtain ⟨z,a,ns,L,rfl,ha,hf,q⟩:=h
  have hu0:=hr.units0
  have hl:((ns.map V.int).length:Int)=(ns.length:Nat):=by rw [List.length_map]
  refine ⟨_,%[%[%[op_eq,s!"0",s!"s",(nomark _)|9],%[%[(@pe_cmpR _ _ _ _ _ _ _ _ op_le %[call_len_seq,rfl,Z.len,s!"k",%[s!"1",s!"n",s!"g"|0],s!"d",s!"d",s!"g",rfl|6] s!"2" (nomark _))|11]|4],s!"z"|10],%[%[%[op_eq,s!"0",s!"s",(nomark _)|9],%[%[(@pe_or _ _ _ _ _ _ _ (@pe_cmpR _ _ _ _ _ _ _ _ (op_eq_list hu0) s!"1" %[%[s!"i",s!"n",s!"g"|0]|23] (nomark _)) (@pe_one _ _ _ _ _ (@pe_cmpR _ _ _ _ _ _ _ _ (op_eq_list hu0) s!"1" %[%[s!"i",s!"n",s!"g"|0]|23] (nomark _))))|11]|4],s!"z"|10],%[%[(@pe_cmpR _ _ _ _ _ _ _ _ op_eq %[call_len_seq,rfl,Z.len,s!"k",%[s!"1",s!"n",s!"g"|0],s!"d",s!"d",s!"g",rfl|6] s!"i" (nomark _))|11]|4]|2]|2],?_⟩
  rcases hf with ⟨rfl,h⟩ | ⟨rfl,h⟩ | ⟨h1,h2,h3⟩
  · have d:decide (((ns.map V.int).length:Int)≤L)=true:=decide_eq_true (by omega)
    walk_at "rd"
    show Q (.bl (decide (((ns.map V.int).length:Int)≤L))) H
    rw [d]
    exact q H Same.refl'
  · rcases h with rfl | rfl
    · have e:(if (false:Bool)=true then !eqVs [V.int 0] [V.int 0] else eqVs [V.int 0] [V.int 0])=true:=rfl
      walk_at "rd"
      intro p1 n1
      refine ⟨a,p1,[.int 0],[.int 0],rfl,rfl,SqL.of (at_new n1 ha),SqL.of upd_same,rfl,?_⟩
      rw [e]
      walk_at "rd"
      exact q _ (Same.new n1 _)
    · have e:(if (false:Bool)=true then !eqVs [V.int 1] [V.int 0] else eqVs [V.int 1] [V.int 0])=false:=rfl
      have e':(if (false:Bool)=true then !eqVs [V.int 1] [V.int 1] else eqVs [V.int 1] [V.int 1])=true:=rfl
      walk_at "rd"
      intro p1 n1
      refine ⟨a,p1,[.int 1],[.int 0],rfl,rfl,SqL.of (at_new n1 ha),SqL.of upd_same,rfl,?_⟩
      rw [e]
      walk_at "rd"
      intro p2 n2
      refine ⟨a,p2,[.int 1],[.int 1],rfl,rfl,SqL.of (at_new n2 (at_new n1 ha)),SqL.of upd_same,rfl,?_⟩
      rw [e']
      exact q _ ((Same.new n1 _).trans (Same.new n2 _))
  · have d1:decide (V.str z=V.str (Str.ofString "sent"))=false:=decide_eq_false fun e=>h1 (V.str.inj e)
    have d2:decide (V.str z=V.str (Str.ofString "running"))=false:=decide_eq_false fun e=>h2 (V.str.inj e)
    have d3:decide (V.int ((ns.map V.int).length:Int)=V.int 1)=true:=decide_eq_true (by rw [hl,h3];rfl)
    walk_at "rd"
    rw [d1]
    walk_at "rd"
    rw [d2]
    walk_at "rd"
    show Q (.bl (decide (V.int ((ns.map V.int).length:Int)=V.int 1))) H
    rw [d3]
    exact q H Same.refl'
end
end Sp

set_option Elab.async false
set_option linter.all false
set_option maxRecDepth 100000
set_option maxHeartbeats 4000000


namespace Sp
open PySem L2
section
variable {P:Program}{w:World}{K:PySem.W.Frag}{mg:Str→Option Value}{base:Heap}{CP CD CB CL CN CS CO aW:Addr}
theorem lines_len (s:Sd.S):(lines9 s).length=9:=by
  unfold lines9
  rw [List.length_zipWith,rows_len]
  rfl
theorem fit9 {s:Sd.S}{L:Int} (h:(s.sent.length:Int)≤L):∀ {i:Nat}{z:Str}{ns:List Int},words9[i]?=some z→(rows9 s)[i]?=some ns→fitOk z ns L
  | 0,z,ns,e1,e2=>.inr (.inr ⟨by rw [← Option.some.inj e1];decide,by rw [← Option.some.inj e1];decide,by rw [← Option.some.inj e2];rfl⟩)
  | 1,z,ns,e1,e2=>by
    refine .inr (.inl ⟨(Option.some.inj e1).symm,?_⟩)
    rw [← Option.some.inj e2]
    show [if s.run=true then (1:Int) else 0] = [0] ∨ [if s.run=true then (1:Int) else 0] = [1]
    by_cases hr:s.run=true
    · rw [if_pos hr];exact .inr rfl
    · rw [if_neg hr];exact .inl rfl
  | 2,z,ns,e1,e2=>.inr (.inr ⟨by rw [← Option.some.inj e1];decide,by rw [← Option.some.inj e1];decide,by rw [← Option.some.inj e2];rfl⟩)
  | 3,z,ns,e1,e2=>.inr (.inr ⟨by rw [← Option.some.inj e1];decide,by rw [← Option.some.inj e1];decide,by rw [← Option.some.inj e2];rfl⟩)
  | 4,z,ns,e1,e2=>.inr (.inr ⟨by rw [← Option.some.inj e1];decide,by rw [← Option.some.inj e1];decide,by rw [← Option.some.inj e2];rfl⟩)
  | 5,z,ns,e1,e2=>.inr (.inr ⟨by rw [← Option.some.inj e1];decide,by rw [← Option.some.inj e1];decide,by rw [← Option.some.inj e2];rfl⟩)
  | 6,z,ns,e1,e2=>.inr (.inr ⟨by rw [← Option.some.inj e1];decide,by rw [← Option.some.inj e1];decide,by rw [← Option.some.inj e2];rfl⟩)
  | 7,z,ns,e1,e2=>.inr (.inr ⟨by rw [← Option.some.inj e1];decide,by rw [← Option.some.inj e1];decide,by rw [← Option.some.inj e2];rfl⟩)
  | 8,z,ns,e1,e2=>.inl ⟨(Option.some.inj e1).symm,by rw [← Option.some.inj e2];exact h⟩
  | i + 9,z,ns,e1,e2=>by cases e1
noncomputable def spRows (K:PySem.W.Frag):Sp:=fun vs H Q _=>∃ (a:Addr) (s:Sd.S) (L:Int),vs = [.ref a,.int L]∧H a=some (.lst ((lines9 s).map V.str))∧Small s∧(s.sent.length:Int)≤L ∧
  ∀ l rr H',Same H H'→H l=none→H' l=some (.lst (rr.map V.ref))→RowsAt H' rr (rows9 s)→Q (.ref l) H'
theorem scrows_of:FnScope ["lines", "longest", "rows", "place", "word", "numbers"] ["lines", "longest"] (defScope s_rows_of):=⟨rfl,rfl,rfl,by decide +kernel,rfl,by decide +kernel,by decide +kernel⟩
theorem ok_rows_of {f f1 f2:Addr}{fd fd1 fd2:FuncData} (F:Fun K "rows_of" "rows_of" s_rows_of f fd) (Z:ZT K mg aW) (B_numbers_of:Fn P w K mg base CX0 2 "numbers_of" ["word", "line"] (spNums K) f1 fd1) (B_fits:Fn P w K mg base CX0 1 "fits" ["word", "numbers", "longest"] (spFits K) f2 fd2):FnOk P w K mg base CX0 3 f fd ["lines", "longest"] (spRows K):=by
  refine F.ok scrows_of (fun vs H Q E h=>?_) (fun cdv A outer s₀ H vs Q E hr h=>?_)
  · obtain ⟨a,s,L,rfl,_⟩:=h
    rfl
  obtain ⟨a,s,L,rfl,ha,sm,hL,q⟩:=h
  have hll:(((lines9 s).map V.str).length:Int)=9:=by rw [List.length_map,lines_len];rfl
  have hwl:((words9.map V.str).length:Int)=9:=rfl
  have hr9:=rows_len s
  refine ⟨_,%[%[(2),_,_,_,_,scrows_of.nd,rfl,(Or.inl rfl),%[s!"n"|23],s!"g",s!"f"|12],%[(@ps_for _ _ _ _ _ _ _ _ PassesOwn.never rfl (@pi_enum _ _ _ _ _ _ _ _ rfl Z.enumerate %[(@pe_glob _ _ (.ref _) _ _ rfl Z.WORDS rfl s!"d"),s!"n",s!"g"|0] s!"g" s!"g") (@pg_tup _ _ _ _ _ _ rfl (@pgs_cons _ _ _ _ _ (@pg_name _ _ (3) _ scrows_of.nd rfl (Or.inl rfl) s!"f") (@pgs_cons _ _ _ _ _ (@pg_name _ _ (4) _ scrows_of.nd rfl (Or.inl rfl) s!"f") (@pgs_nil _) s!"g") s!"g") (by rfl) (by rfl)) %[%[%[op_ge,s!"3",%[call_len_seq,rfl,Z.len,s!"k",%[s!"0",s!"n",s!"g"|0],s!"d",s!"d",s!"g",rfl|6],(nomark _)|9],(@pss_never _ _),s!"z"|10],%[%[(5),_,_,_,_,scrows_of.nd,rfl,(Or.inl rfl),%[B_numbers_of.ok,s!"h",rfl,B_numbers_of.m,B_numbers_of.kp,B_numbers_of.b,.nil,pass0,%[s!"4",%[%[ix_list,s!"0",s!"3",(fun _ _=>rfl)|8],s!"n",s!"g"|0],s!"g"|0],s!"d",s!"g",rfl|1],s!"g",s!"f"|12],%[%[(PW.pt %[%[op_isN,s!"5",(@pe_non _ _ _),(nomark _)|9],(@pw_or1 _ _ _ _ (@pt_not _ _ _ _ (@pt_val _ _ _ %[B_fits.ok,s!"h",rfl,B_fits.m,B_fits.kp,B_fits.b,.nil,pass0,%[s!"4",%[s!"5",%[s!"1",s!"n",s!"g"|0],s!"g"|0],s!"g"|0],s!"d",s!"g",rfl|1] s!"g")))|21]),(@pss_never _ _),s!"z"|10],%[%[%[PySem.F.plainAttrs_list,PySem.F.slot_list_append,PySem.F.type_list_append,mt_append,s!"2",%[s!"5",s!"n",s!"g"|0],s!"g",s!"g",s!"g",s!"g",s!"g"|20],s!"g"|18]|4]|2]|2]|2] s!"g"),%[%[%[op_gt,%[call_len_seq,rfl,Z.len,s!"k",%[s!"0",s!"n",s!"g"|0],s!"d",s!"d",s!"g",rfl|6],%[call_len_seq,rfl,Z.len,s!"k",%[(@pe_glob _ _ (.ref _) _ _ rfl Z.WORDS rfl s!"d"),s!"n",s!"g"|0],s!"d",s!"d",s!"g",rfl|6],(nomark _)|9],(@pss_never _ _),s!"z"|10],%[%[s!"2"|11]|4]|2]|2]|2],?_⟩
  dsimp only [cxOf,Cx.nox]
  walk_at "rd"
  intro l nl
  have s1:=Same.new nl (.lst [])
  have hW:=Z.words (upd H l (.lst []))
  walk_at "rd"
  refine for_enum (xs:=words9.map V.str) (fun i σ H3=>∃ v3 v4 v5 rr,σ = [some (.ref a),some (.int L),some (.ref l),v3,v4,v5]∧Same H H3∧H3 l=some (.lst (rr.map V.ref))∧RowsAt H3 rr ((rows9 s).take i)∧∀ r ∈ rr,r ≠ l) ?_ ?_ ?_ ?_
  · exact ⟨none,none,none,[],rfl,s1,upd_same,⟨rfl,fun i r z=>by simp at z⟩,fun r h=>by simp at h⟩
  · rintro i σ H3 _ ⟨v3,v4,v5,rr,rfl,_⟩
    exact Z.words _
  · rintro i x T σ H3 hx ⟨v3,v4,v5,rr,rfl,s3,hl,hR,hne⟩ nT
    obtain ⟨z,ez,rfl⟩:∃ z,words9[i]?=some z∧x = .str z:=by
      rw [List.getElem?_map] at hx
      cases e:words9[i]? with
      | none=>rw [e] at hx;cases hx
      | some z=>rw [e] at hx;exact ⟨z,rfl,(Option.some.inj hx).symm⟩
    have hi9:i < 9:=(List.getElem?_eq_some_iff.mp ez).1
    have hir:i < (rows9 s).length:=by omega
    obtain ⟨ns,en⟩:∃ ns,(rows9 s)[i]?=some ns:=⟨_,List.getElem?_eq_getElem hir⟩
    have el:(lines9 s)[i]?=some (Tx.line z ns):=by
      unfold lines9
      rw [List.getElem?_zipWith,ez,en]
    have hz:=words_short z (List.mem_of_getElem? ez)
    have hns:=rows_small sm ns (List.mem_of_getElem? en)
    have hfit:=fit9 (L:=L) hL ez en
    have s4:=s3.trans (Same.new nT (.tup [.int i,.str z]))
    have ha4:=s4 _ _ ha
    have hat:atI ((lines9 s).map V.str) (i:Int)=some (.str (Tx.line z ns)):=atI_nat (by rw [List.getElem?_map,el];rfl)
    have hrl:=hR.len
    rw [List.length_take] at hrl
    have hl4:=at_new (o:=.tup [.int i,.str z]) nT hl
    have hR4:=hR.same (Same.new nT (.tup [.int i,.str z]))
    walk_at "rd"
    refine ⟨hz.2,hns.1,hns.2,fun l5 H5 s5 n5 h5=>?_⟩
    have nl5:l5 ≠ l:=(ne_of_none hl4 n5).symm
    have hl5:=s5 _ _ hl4
    walk_at "rd"
    refine ⟨z,l5,ns,L,rfl,h5,hfit,fun H6 s6=>?_⟩
    have hl6:=s6 _ _ hl5
    have h6:=s6 _ _ h5
    have hsz:(rr.map V.ref).length < sizeLine:=by rw [List.length_map,sizeLine_eq];omega
    walk_at "rd"
    refine ⟨_,_,_,rr ++ [l5],rfl,((s4.trans s5).trans s6).mut nl,by rw [upd_same,List.map_append];rfl,?_,fun r h=>?_⟩
    · have e2:(rows9 s).take (i + 1)=(rows9 s).take i ++ [ns]:=by rw [List.take_succ,en];rfl
      rw [e2]
      refine RowsAt.mut (((hR4.same s5).same s6).app h6) fun r h=>?_
      rcases List.mem_append.mp h with h | h
      · exact hne r h
      · rw [List.mem_singleton.mp h];exact nl5
    · rcases List.mem_append.mp h with h | h
      · exact hne r h
      · rw [List.mem_singleton.mp h];exact nl5
  · rintro σ H3 ⟨v3,v4,v5,rr,rfl,s3,hl,hR,hne⟩
    have ha3:=s3 _ _ ha
    have hW3:=Z.words H3
    have e9:(rows9 s).take (words9.map V.str).length=rows9 s:=List.take_of_length_le (by rw [hr9];exact Nat.le_refl 9)
    rw [e9] at hR
    walk_at "rd"
    exact q l rr H3 s3 nl hl hR
/-! ### loaded -/
inductive SpSetC (K:PySem.W.Frag) (CP CD:Addr) (vs:List V) (H:Hp) (Q:VK) (E:XK):Prop where
  | mk (p dx dy rl sn a b:Addr) (rs:List Addr) (g:Cf) (s s':Sd.S) (c0:vs = [.ref p,.ref a,.ref b]) (c1:PumpAt K CP CD H p dx dy rl sn rs g s) (c2:H a=some (.lst ((cnt s').map V.int))) (c3:H b=some (.lst (s'.sent.map V.int))) (c4:∀ sn' H',(∀ c o,c ≠ p→H c=some o→H' c=some o)→H sn'=none→PumpAt K CP CD H' p dx dy rl sn' rs g s'→Q .non H'):SpSetC K CP CD vs H Q E
noncomputable def spSetC (K:PySem.W.Frag) (CP CD:Addr):Sp:=fun vs H Q E=>SpSetC K CP CD vs H Q E
theorem PumpAt.new {H H':Hp}{p dx dy rl sn sn':Addr}{rs:List Addr}{g:Cf}{s s':Sd.S} (a:PumpAt K CP CD H p dx dy rl sn rs g s) (k:∀ c o,c ≠ p→H c=some o→H' c=some o) (ob:H' p=some (.ins CP dx (pumpF (pf g s' dy rl sn')))) (se:H' sn'=some (.lst (s'.sent.map V.int))) (nr:rl ≠ sn'):PumpAt K CP CD H' p dx dy rl sn' rs g s':=by
  obtain ⟨n1,n2,n3,n4⟩:=a.npr
  have b:But p p H H':=fun c o h1 _ e=>k c o h1 e
  obtain ⟨dx',pt,sm,rs',h1,⟨h2,h3⟩,h4⟩:=a.day.ex
  exact ⟨ob,⟨dx',pt,sm,rs',k _ _ a.npd.symm h1,⟨SqT.but h2 a.ob True.intro a.ob True.intro b,h3.but a.ob True.intro a.ob True.intro b⟩,SqT.but h4 a.ob True.intro a.ob True.intro b⟩,k _ _ n1.symm a.rls,a.rt.but a.ob True.intro a.ob True.intro b,se,a.npd,nr⟩
theorem scset_counts:FnScope ["pump", "numbers", "sent"] ["pump", "numbers", "sent"] (defScope s_set_counts):=⟨rfl,rfl,rfl,by decide +kernel,rfl,by decide +kernel,by decide +kernel⟩
theorem ok_set_counts {f:Addr}{fd:FuncData} (F:Fun K "set_counts" "set_counts" s_set_counts f fd) (TPump:TP K CP) (Z:ZT K mg aW):FnOk P w K mg base CX0 1 f fd ["pump", "numbers", "sent"] (spSetC K CP CD):=by
  refine F.ok scset_counts (fun vs H Q E h=>?_) (fun cdv A outer s₀ H vs Q E hr h=>?_)
  · obtain ⟨p,dx,dy,rl,sn,a,b,rs,g,s,s',rfl,_⟩:=h
    rfl
  obtain ⟨p,dx,dy,rl,sn,a,b,rs,g,s,s',rfl,PA,ha,hb,q⟩:=h
  have ho:=PA.ob
  have nap:a ≠ p:=ne_of ha ho (by intro z;cases z)
  have nbp:b ≠ p:=ne_of hb ho (by intro z;cases z)
  have i0:atI ((cnt s').map V.int) 0=some (.int s'.now):=rfl
  have i1:atI ((cnt s').map V.int) 1=some (.int (if s'.run=true then 1 else 0)):=rfl
  have i2:atI ((cnt s').map V.int) 2=some (.int s'.con):=rfl
  have i3:atI ((cnt s').map V.int) 3=some (.int s'.wai):=rfl
  have i4:atI ((cnt s').map V.int) 4=some (.int s'.ask):=rfl
  have i5:atI ((cnt s').map V.int) 5=some (.int s'.mis):=rfl
  have i6:atI ((cnt s').map V.int) 6=some (.int s'.tot):=rfl
  have i7:atI ((cnt s').map V.int) 7=some (.int s'.fre):=rfl
  have er:decide (V.int (if s'.run=true then 1 else 0)=V.int 1)=s'.run:=by cases s'.run <;> rfl
  refine ⟨_,%[%[FPump_now,TPump.cl,TPump.n_now,s!"0",%[ix_list,s!"1",s!"i",(fun _ _=>rfl)|8],s!"g"|15],%[%[FPump_running,TPump.cl,TPump.n_running,s!"0",(@pe_cmpR _ _ _ _ _ _ _ _ op_eq %[ix_list,s!"1",s!"i",(fun _ _=>rfl)|8] s!"i" (nomark _)),s!"g"|15],%[%[FPump_content,TPump.cl,TPump.n_content,s!"0",%[ix_list,s!"1",s!"i",(fun _ _=>rfl)|8],s!"g"|15],%[%[FPump_waiting,TPump.cl,TPump.n_waiting,s!"0",%[ix_list,s!"1",s!"i",(fun _ _=>rfl)|8],s!"g"|15],%[%[FPump_asked,TPump.cl,TPump.n_asked,s!"0",%[ix_list,s!"1",s!"i",(fun _ _=>rfl)|8],s!"g"|15],%[%[FPump_missed,TPump.cl,TPump.n_missed,s!"0",%[ix_list,s!"1",s!"i",(fun _ _=>rfl)|8],s!"g"|15],%[%[FPump_total,TPump.cl,TPump.n_total,s!"0",%[ix_list,s!"1",s!"i",(fun _ _=>rfl)|8],s!"g"|15],%[%[FPump_free,TPump.cl,TPump.n_free,s!"0",%[ix_list,s!"1",s!"i",(fun _ _=>rfl)|8],s!"g"|15],%[%[FPump_sent,TPump.cl,TPump.n_sent,s!"0",%[call_list_of,rfl,Z.list,s!"k",%[s!"2",s!"n",s!"g"|0],s!"d",s!"d",s!"g",rfl|16],s!"g"|15]|4]|2]|2]|2]|2]|2]|2]|2]|2],?_⟩
  dsimp only [cxOf,Cx.nox]
  walk_at "rd"
  intro sn' n'
  simp only [upd_upd] at n' ⊢
  rw [er] at n' ⊢
  have nps:p ≠ sn':=ne_of_none upd_same n'
  have nps':=nps.symm
  have n0:H sn'=none:=by rw [upd_ne nps'] at n';exact n'
  walk_at "rd"
  have kp:∀ (X Y:HO) c o,c ≠ p→H c=some o→(upd (upd (upd H p X) sn' (.lst (s'.sent.map V.int))) p Y) c=some o:=fun X Y c o h1 e=>at_ne h1 (at_ne (ne_of_none e n0) (at_ne h1 e))
  exact q sn' _ (kp _ _) n0 (PA.new (s':=s') (kp _ _) upd_same (at_ne nps' upd_same) (ne_of_none PA.rls n0))
theorem rows_at {s:Sd.S}:∀ {i:Nat},i < 8→∃ n,(cnt s)[i]?=some n∧(rows9 s).getD i [] = [n]
  | 0,_=>⟨_,rfl,rfl⟩
  | 1,_=>⟨_,rfl,rfl⟩
  | 2,_=>⟨_,rfl,rfl⟩
  | 3,_=>⟨_,rfl,rfl⟩
  | 4,_=>⟨_,rfl,rfl⟩
  | 5,_=>⟨_,rfl,rfl⟩
  | 6,_=>⟨_,rfl,rfl⟩
  | 7,_=>⟨_,rfl,rfl⟩
  | i + 8,h=>absurd h (by omega)
inductive SpLoaded (K:PySem.W.Frag) (CP CD:Addr) (vs:List V) (H:Hp) (Q:VK) (E:XK):Prop where
  | mk (a dy ra:Addr) (rs:List Addr) (g:Cf) (s:Sd.S) (c0:vs = [.ref a,.ref dy,.ref ra,.int g.lock,.int g.dose,.int g.hold]) (c1:H a=some (.lst ((lines9 s).map V.str))) (c2:Small s) (c3:DayAt K CD H dy g.ticks g.ps) (c4:H ra=some (.lst (rs.map V.ref))) (c5:RT K H rs g.rules) (c6:g.Ok) (c7:(s.sent.length:Int)≤Sd.longest g.rules) (c8:∀ p dx rl sn H',Same H H'→H p=none→H rl=none→H sn=none→PumpAt K CP CD H' p dx dy rl sn rs g s→Q (.ref p) H'):SpLoaded K CP CD vs H Q E
noncomputable def spLoaded (K:PySem.W.Frag) (CP CD:Addr):Sp:=fun vs H Q E=>SpLoaded K CP CD vs H Q E
theorem scloaded:FnScope ["lines", "day", "rules", "lock", "dose", "hold", "pump", "rows", "last"] ["lines", "day", "rules", "lock", "dose", "hold"] (defScope s_loaded):=⟨rfl,rfl,rfl,by decide +kernel,rfl,by decide +kernel,by decide +kernel⟩
theorem ok_loaded {f f1 f2 f3 f4:Addr}{fd fd1 fd2 fd3 fd4:FuncData} (F:Fun K "loaded" "loaded" s_loaded f fd) (TPump:TP K CP) (Z:ZT K mg aW) (B_Pump:Mc P w K mg base (CXE P w) 3 "Pump" CP ["self", "day", "rules", "lock", "dose", "hold"] (spPumpI K CP CD CB) f1 fd1)
    (B_longest_window:Fn P w K mg base CX0 1 "longest_window" ["rules"] (spLW K) f2 fd2) (B_rows_of:Fn P w K mg base CX0 3 "rows_of" ["lines", "longest"] (spRows K) f3 fd3) (B_set_counts:Fn P w K mg base CX0 1 "set_counts" ["pump", "numbers", "sent"] (spSetC K CP CD) f4 fd4):FnOk P w K mg base CX0 5 f fd ["lines", "day", "rules", "lock", "dose", "hold"] (spLoaded K CP CD):=by
  refine F.ok scloaded (fun vs H Q E h=>?_) (fun cdv A outer s₀ H vs Q E hr h=>?_)
  · obtain ⟨a,dy,ra,rs,g,s,rfl,_⟩:=h
    rfl
  obtain ⟨a,dy,ra,rs,g,s,rfl,ha,sm,D,hra,hT,og,hL,q⟩:=h
  refine ⟨_,%[%[(6),_,_,_,_,scloaded.nd,rfl,(Or.inl rfl),(@pe_make _ _ _ _ _ _ _ _ _ _ _ _ _ _ _ _ _ B_Pump.mkk B_Pump.ok s!"h" rfl B_Pump.m B_Pump.b .nil passF %[s!"1",%[s!"2",%[s!"3",%[s!"4",%[s!"5",s!"n",s!"g"|0],s!"g"|0],s!"g"|0],s!"g"|0],s!"g"|0] s!"d" s!"g" rfl),s!"g",s!"f"|12],%[%[(7),_,_,_,_,scloaded.nd,rfl,(Or.inl rfl),%[B_rows_of.ok,s!"h",rfl,B_rows_of.m,B_rows_of.kp,B_rows_of.b,.nil,pass0,%[s!"0",%[%[B_longest_window.ok,s!"h",rfl,B_longest_window.m,B_longest_window.kp,B_longest_window.b,.nil,pass0,%[%[FPump_rules,TPump.cl,TPump.n_rules,s!"6",s!"g"|5],s!"n",s!"g"|0],s!"d",s!"g",rfl|1],s!"n",s!"g"|0],s!"g"|0],s!"d",s!"g",rfl|1],s!"g",s!"f"|12],%[%[(8),_,_,_,_,scloaded.nd,rfl,(Or.inl rfl),%[op_sub,%[call_len_seq,rfl,Z.len,s!"k",%[s!"7",s!"n",s!"g"|0],s!"d",s!"d",s!"g",rfl|6],s!"i"|3],s!"g",s!"f"|12],%[%[%[B_set_counts.ok,s!"h",rfl,B_set_counts.m,B_set_counts.kp,B_set_counts.b,.nil,pass0,%[s!"6",%[%[(defScope s_loaded),_,(["lines", "day", "rules", "lock", "dose", "hold", "pump", "rows", "last"]),(["lines", "day", "rules", "lock", "dose", "hold", "pump", "rows", "last", "numbers"]),(["numbers"]),_,_,_,_,_,rfl,rfl,rfl,(.of s!"k"),(@pi_list _ _ _ _ (@pe_slice _ _ _ _ _ _ _ _ _ _ sl_list s!"7" (@po_none _) (@po_some _ _ _ s!"8"))),takes_name,(fun _ _ _ _ _=>@pg_name _ _ (9) _ (show List.Nodup (["lines", "day", "rules", "lock", "dose", "hold", "pump", "rows", "last", "numbers"]:List Str) by decide +kernel) rfl (Or.inl rfl) s!"f"),(fun _ _ _ _ _=>@pif_nil _),(fun _ _ _ _ _=>%[(ix_listK (K:=K) rfl),s!"9",s!"i",(fun _ _=>rfl)|8]),s!"g"|22],%[%[ix_list,s!"7",s!"8",(fun _ _=>rfl)|8],s!"n",s!"g"|0],s!"g"|0],s!"g"|0],s!"d",s!"g",rfl|1],s!"g"|18],%[%[s!"6"|11]|4]|2]|2]|2]|2],?_⟩
  dsimp only [cxOf,Cx.nox]
  have rln:=og.r.ln
  have olk:=og.lk
  have ods:=og.ds
  have ohd:=og.hd
  walk_at "rd"
  intro x dx nx ndx nex
  have s5:Same H (upd (upd H dx (.own x)) x (.ins CP dx [])):=fun c o ec=>by
    rw [upd_ne (ne_of_none ec nx),upd_ne (ne_of_none ec ndx)]
    exact ec
  obtain ⟨dz,pt,smm,rs',hy,_,_⟩:=id D
  refine ⟨x,dx,dy,ra,rs,g,rfl,upd_same,D.same s5,(ne_of_none hy nx).symm,s5 _ _ hra,hT.same s5,bdr_ok og.r,by omega,og.d,(by unfold Bd;omega),(by unfold Bd;omega),(by unfold Bd;omega),fun _ rl sn H1 kp nrl nsn PA=>?_,fun no=>absurd og no⟩
  have s6:Same H H1:=fun c o ec=>kp c o (ne_of_none ec nx) (s5 c o ec)
  have nrl0:=s5.free nrl
  have ho1:=PA.ob
  have ha1:=s6 _ _ ha
  walk_at "rd"
  refine ⟨rl,rs,g.rules,rfl,SqL.of PA.rls,PA.rt,by omega,by omega,fun H2 s2=>?_⟩
  have ha2:=s2 _ _ ha1
  walk_at "rd"
  intro l rr H3 s3 nl hl hR
  have hrl:=hR.len
  rw [rows_len] at hrl
  have PA3:=(PA.same s2).same s3
  have hll:((rr.map V.ref).length:Int)=9:=by rw [List.length_map,hrl];rfl
  have h98:((rr.map V.ref).length:Int) - 1=((8:Nat):Int):=by omega
  have hat8:∃ r8,rr[8]?=some r8:=⟨_,List.getElem?_eq_getElem (by omega)⟩
  obtain ⟨r8,e8⟩:=hat8
  have hi8:atI (rr.map V.ref) (((rr.map V.ref).length:Int) - 1)=some (.ref r8):=by rw [h98];exact atI_nat (by rw [List.getElem?_map,e8];rfl)
  have hr8:H3 r8=some (.lst (s.sent.map V.int)):=by
    have:=hR.at_ 8 r8 e8
    exact this
  have e1:cutV (rr.map V.ref) none (some (((rr.map V.ref).length:Int) - 1))=(rr.take 8).map V.ref:=by
    rw [h98]
    unfold cutV
    rw [HT.sIx_nat,HT.sIx_none,List.length_map,hrl,List.map_take]
    rfl
  walk_at "rd"
  refine ⟨l,_,rfl,SqL.of hl,fun l4 n4=>?_⟩
  rw [e1]
  have s4:=Same.new n4 (.lst ((rr.take 8).map V.ref))
  have hl4:(upd H3 l4 (.lst ((rr.take 8).map V.ref))) l4=some (.lst ((rr.take 8).map V.ref)):=upd_same
  generalize upd H3 l4 (.lst ((rr.take 8).map V.ref))=H4 at s4 hl4 ⊢
  have ht8:((rr.take 8).map V.ref).length=8:=by rw [List.length_map,List.length_take,hrl];rfl
  walk_at "rd"
  intro acc n5
  refine comp_list (xs:=(rr.take 8).map V.ref) (fun i ys H5=>ys=((cnt s).take i).map V.int∧Same H4 H5∧H5 acc=some (.lst ys)) ?_ ?_ ?_ ?_
  · exact ⟨rfl,Same.new n5 _,upd_same⟩
  · rintro i ys H5 _ ⟨_,s5',_⟩
    exact SqL.of (s5' _ _ hl4)
  · rintro i xx ys H5 hi hx ⟨rfl,s5',hac⟩
    rw [ht8] at hi
    obtain ⟨n,en,er⟩:=rows_at (s:=s) hi
    obtain ⟨r,er2,rfl⟩:∃ r,rr[i]?=some r∧xx = .ref r:=by
      rw [List.getElem?_map,List.getElem?_take,if_pos hi] at hx
      cases e:rr[i]? with
      | none=>rw [e] at hx;cases hx
      | some r=>rw [e] at hx;exact ⟨r,rfl,(Option.some.inj hx).symm⟩
    have hrow:=hR.at_ i r er2
    rw [er] at hrow
    have hrow5:H5 r=some (.lst [.int n]):=s5' _ _ (s4 _ _ hrow)
    have hsz:(((cnt s).take i).map V.int).length < sizeLine:=by rw [List.length_map,List.length_take,sizeLine_eq,cnt_len];omega
    have a0:atI [V.int n] 0=some (.int n):=rfl
    walk_at "rd"
    have e2:((cnt s).take i).map V.int ++ [V.int n]=((cnt s).take (i + 1)).map V.int:=by rw [List.take_succ,en,List.map_append];rfl
    refine cstep (by rw [ht8];exact hi) ⟨e2,s5'.mut n5,upd_same⟩
  · rintro ys H5 ⟨rfl,s5',hac⟩
    have e3:(cnt s).take ((rr.take 8).map V.ref).length=cnt s:=List.take_of_length_le (by rw [ht8,cnt_len];exact Nat.le_refl 8)
    rw [e3] at hac
    have s35:=s4.trans s5'
    have hl5:=s35 _ _ hl
    have hr5:=s35 _ _ hr8
    have PA5:=PA3.same s35
    walk_at "rd"
    refine ⟨x,dx,dy,rl,sn,acc,r8,rs,g,s0,s,rfl,PA5,hac,hr5,fun sn' H6 kp6 n6 PA6=>?_⟩
    walk_at "rd"
    have sAll:Same H H5:=((s6.trans s2).trans s3).trans s35
    exact q x dx rl sn' H6 (fun c o ec=>kp6 c o (ne_of_none ec nx) (sAll c o ec)) nx nrl0 (sAll.free n6) PA6
end
end Sp

set_option Elab.async false
set_option linter.all false
set_option maxRecDepth 100000
set_option maxHeartbeats 4000000


namespace Sp
open PySem L2
noncomputable def tickN (c:Sd.C):Nat→Sd.S→Sd.S
  | 0,s=>s
  | n + 1,s=>Sd.tick c (tickN c n s)
noncomputable def told (c:Sd.C) (s:Sd.S):Nat→List Int
  | 0=>[]
  | n + 1=>told c s n ++ [Sd.many c (tickN c n s)]
section
variable {P:Program}{w:World}{K:PySem.W.Frag}{mg:Str→Option Value}{base:Heap}{CP CD CB CL CN CS CO aW:Addr}
inductive SpTwin (K:PySem.W.Frag) (CP CD:Addr) (vs:List V) (H:Hp) (Q:VK) (E:XK):Prop where
  | mk (p dx dy rl sn:Addr) (rs:List Addr) (g:Cf) (s:Sd.S) (c0:vs = [.ref p]) (c1:PumpAt K CP CD H p dx dy rl sn rs g s) (c2:g.Ok) (c3:∀ p2 dx2 rl2 sn2 H',Same H H'→H p2=none→H rl2=none→H sn2=none→PumpAt K CP CD H' p2 dx2 dy rl2 sn2 rs g s→Q (.ref p2) H'):SpTwin K CP CD vs H Q E
noncomputable def spTwin (K:PySem.W.Frag) (CP CD:Addr):Sp:=fun vs H Q E=>SpTwin K CP CD vs H Q E
theorem sctwin:FnScope ["pump", "other"] ["pump"] (defScope s_twin):=⟨rfl,rfl,rfl,by decide +kernel,rfl,by decide +kernel,by decide +kernel⟩
theorem ok_twin {f f1 f2 f3:Addr}{fd fd1 fd2 fd3:FuncData} (F:Fun K "twin" "twin" s_twin f fd) (TPump:TP K CP) (B_Pump:Mc P w K mg base (CXE P w) 3 "Pump" CP ["self", "day", "rules", "lock", "dose", "hold"] (spPumpI K CP CD CB) f1 fd1) (B_counts:Fn P w K mg base CX0 1 "counts" ["pump"] (spCounts K CP CD) f2 fd2) (B_set_counts:Fn P w K mg base CX0 1 "set_counts" ["pump", "numbers", "sent"] (spSetC K CP CD) f3 fd3):FnOk P w K mg base CX0 5 f fd ["pump"] (spTwin K CP CD):=by
  refine F.ok sctwin (fun vs H Q E h=>?_) (fun cdv A outer s₀ H vs Q E hr h=>?_)
  · obtain ⟨p,dx,dy,rl,sn,rs,g,s,rfl,_⟩:=h
    rfl
  obtain ⟨p,dx,dy,rl,sn,rs,g,s,rfl,a,og,q⟩:=h
  have ho:=a.ob
  have rln:=og.r.ln
  have olk:=og.lk
  have ods:=og.ds
  have ohd:=og.hd
  refine ⟨_,%[%[(1),_,_,_,_,sctwin.nd,rfl,(Or.inl rfl),(@pe_make _ _ _ _ _ _ _ _ _ _ _ _ _ _ _ _ _ B_Pump.mkk B_Pump.ok s!"h" rfl B_Pump.m B_Pump.b .nil passF %[%[FPump_day,TPump.cl,TPump.n_day,s!"0",s!"g"|5],%[%[FPump_rules,TPump.cl,TPump.n_rules,s!"0",s!"g"|5],%[%[FPump_lock,TPump.cl,TPump.n_lock,s!"0",s!"g"|5],%[%[FPump_dose,TPump.cl,TPump.n_dose,s!"0",s!"g"|5],%[%[FPump_hold,TPump.cl,TPump.n_hold,s!"0",s!"g"|5],s!"n",s!"g"|0],s!"g"|0],s!"g"|0],s!"g"|0],s!"g"|0] s!"d" s!"g" rfl),s!"g",s!"f"|12],%[%[%[B_set_counts.ok,s!"h",rfl,B_set_counts.m,B_set_counts.kp,B_set_counts.b,.nil,pass0,%[s!"1",%[%[B_counts.ok,s!"h",rfl,B_counts.m,B_counts.kp,B_counts.b,.nil,pass0,%[s!"0",s!"n",s!"g"|0],s!"d",s!"g",rfl|1],%[%[FPump_sent,TPump.cl,TPump.n_sent,s!"0",s!"g"|5],s!"n",s!"g"|0],s!"g"|0],s!"g"|0],s!"d",s!"g",rfl|1],s!"g"|18],%[%[s!"1"|11]|4]|2]|2],?_⟩
  walk_at "rd"
  intro x ddx nx ndx nex
  have s5:Same H (upd (upd H ddx (.own x)) x (.ins CP ddx [])):=fun c o ec=>by
    rw [upd_ne (ne_of_none ec nx),upd_ne (ne_of_none ec ndx)]
    exact ec
  obtain ⟨dz,pt,smm,rs',hy,_,_⟩:=id a.day.ex
  refine ⟨x,ddx,dy,rl,rs,g,rfl,upd_same,a.day.same s5,(ne_of_none hy nx).symm,s5 _ _ a.rls,a.rt.same s5,bdr_ok og.r,by omega,og.d,(by unfold Bd;omega),(by unfold Bd;omega),(by unfold Bd;omega),fun _ rl2 sn2 H1 kp nrl nsn PA=>?_,fun no=>absurd og no⟩
  have s6:Same H H1:=fun c o ec=>kp c o (ne_of_none ec nx) (s5 c o ec)
  have a1:=a.same s6
  have ho1:=a1.ob
  walk_at "rd"
  refine ⟨p,dx,dy,rl,sn,rs,g,s,rfl,a1,fun lc H2 s2 nlc hlc=>?_⟩
  have a2:=a1.same s2
  have ho2:=a2.ob
  have PA2:=PA.same s2
  walk_at "rd"
  refine ⟨x,ddx,dy,rl2,sn2,lc,sn,rs,g,s0,s,rfl,PA2,hlc,a2.se,fun sn' H6 kp6 n6 PA6=>?_⟩
  walk_at "rd"
  have sAll:=s6.trans s2
  exact q x ddx rl2 sn' H6 (fun c o ec=>kp6 c o (ne_of_none ec nx) (sAll c o ec)) nx (s5.free nrl) (sAll.free n6) PA6
theorem tickN_ok {g:Cf} (og:g.Ok) {s:Sd.S} (k:Sd.Ok g.c s):∀ n,Sd.Ok g.c (tickN g.c n s)
  | 0=>k
  | n + 1=>(tickN_ok og k n).deed og.good .tick 0 0
inductive SpAhead (K:PySem.W.Frag) (CP CD:Addr) (vs:List V) (H:Hp) (Q:VK) (E:XK):Prop where
  | mk (p dx dy rl sn:Addr) (rs:List Addr) (g:Cf) (s:Sd.S) (n:Int) (c0:vs = [.ref p,.int n]) (c1:PumpAt K CP CD H p dx dy rl sn rs g s) (c2:g.Ok) (c3:Sd.Ok g.c s) (c4:0≤n) (c5:n≤100) (c6:∀ l H',Same H H'→H l=none→H' l=some (.lst ((told g.c s n.toNat).map V.int))→Q (.ref l) H'):SpAhead K CP CD vs H Q E
noncomputable def spAhead (K:PySem.W.Frag) (CP CD:Addr):Sp:=fun vs H Q E=>SpAhead K CP CD vs H Q E
theorem told_len {c:Sd.C}{s:Sd.S}:∀ n,(told c s n).length=n
  | 0=>rfl
  | n + 1=>by show (told c s n ++ [_]).length=_;rw [List.length_append,told_len n];rfl
theorem scahead:FnScope ["pump", "ticks", "other", "told", "place"] ["pump", "ticks"] (defScope s_ahead):=⟨rfl,rfl,rfl,by decide +kernel,rfl,by decide +kernel,by decide +kernel⟩
theorem ok_ahead {f f1 f2:Addr}{fd fd1 fd2:FuncData} (F:Fun K "ahead" "ahead" s_ahead f fd) (Z:ZL mg) (B_twin:Fn P w K mg base CX0 5 "twin" ["pump"] (spTwin K CP CD) f1 fd1) (B_tick:Fn P w K mg base CX0 4 "tick" ["pump"] (spTick K CP CD) f2 fd2):FnOk P w K mg base CX0 6 f fd ["pump", "ticks"] (spAhead K CP CD):=by
  refine F.ok scahead (fun vs H Q E h=>?_) (fun cdv A outer s₀ H vs Q E hr h=>?_)
  · obtain ⟨p,dx,dy,rl,sn,rs,g,s,n,rfl,_⟩:=h
    rfl
  obtain ⟨p,dx,dy,rl,sn,rs,g,s,n,rfl,a,og,ok,h0,h1,q⟩:=h
  refine ⟨_,%[%[(2),_,_,_,_,scahead.nd,rfl,(Or.inl rfl),%[B_twin.ok,s!"h",rfl,B_twin.m,B_twin.kp,B_twin.b,.nil,pass0,%[s!"0",s!"n",s!"g"|0],s!"d",s!"g",rfl|1],s!"g",s!"f"|12],%[%[(3),_,_,_,_,scahead.nd,rfl,(Or.inl rfl),%[s!"n"|23],s!"g",s!"f"|12],%[(@ps_for _ _ _ _ _ _ _ _ PassesOwn.never rfl (@pi_range1 _ _ _ _ _ _ rfl Z.range %[s!"1",s!"n",s!"g"|0] s!"g") (@pg_name _ _ (4) _ scahead.nd rfl (Or.inl rfl) s!"f") %[%[%[PySem.F.plainAttrs_list,PySem.F.slot_list_append,PySem.F.type_list_append,mt_append,s!"3",%[%[B_tick.ok,s!"h",rfl,B_tick.m,B_tick.kp,B_tick.b,.nil,pass0,%[s!"2",s!"n",s!"g"|0],s!"d",s!"g",rfl|1],s!"n",s!"g"|0],s!"g",s!"g",s!"g",s!"g",s!"g"|20],s!"g"|18]|4] s!"g"),%[%[s!"3"|11]|4]|2]|2]|2],?_⟩
  walk_at "rd"
  refine ⟨p,dx,dy,rl,sn,rs,g,s,rfl,a,og,fun p2 dx2 rl2 sn2 H1 s1 np2 nrl2 nsn2 PA=>?_⟩
  walk_at "rd"
  intro l nl
  have s2:=Same.new nl (.lst [])
  have PA2:=PA.same s2
  have n1:l ≠ rl2:=(ne_of_none PA.rls nl).symm
  have n2:l ≠ sn2:=(ne_of_none PA.se nl).symm
  have hl0:(upd H1 l (.lst [])) l=some (.lst []):=upd_same
  generalize upd H1 l (.lst [])=H2 at s2 PA2 hl0 ⊢
  have sH2:=s1.trans s2
  have nl0:=s1.free nl
  walk_at "rd"
  refine for_range (fun i σ H3=>∃ v4,σ = [some (.ref p),some (.int n),some (.ref p2),some (.ref l),v4]∧Same H H3∧PumpAt K CP CD H3 p2 dx2 dy rl2 sn2 rs g (tickN g.c i s)∧H3 l=some (.lst ((told g.c s i).map V.int))) ?_ ?_ ?_
  · exact ⟨none,rfl,sH2,PA2,hl0⟩
  · rintro i σ H3 hi ⟨v4,rfl,s3,PA3,hl⟩
    obtain ⟨dx3,pt3,sm3,rs3,hdy,_,_⟩:=id PA3.day.ex
    have nlp:l ≠ p2:=ne_of hl PA3.ob (by intro z;cases z)
    have nld:l ≠ dy:=ne_of hl hdy (by intro z;cases z)
    walk_at "rd"
    refine ⟨p2,dx2,dy,rl2,sn2,rs,g,_,rfl,PA3,og,tickN_ok og ok i,fun H4 b4 PA4=>?_⟩
    have hl4:=b4 _ _ nlp n2 hl
    have hsz:((told g.c s i).map V.int).length < sizeLine:=by rw [List.length_map,told_len,sizeLine_eq];omega
    walk_at "rd"
    have s4:=same_but s3 b4 np2 nsn2
    have e:(told g.c s i).map V.int ++ [.int (Sd.many g.c (tickN g.c i s))]=(told g.c s (i + 1)).map V.int:=by
      show _=(told g.c s i ++ [_]).map V.int
      rw [List.map_append]
      rfl
    rw [e]
    exact ⟨s4.mut nl0,PA4.but hl4 True.intro hl4 True.intro But.put ⟨nlp.symm,nlp.symm⟩ ⟨nld.symm,nld.symm⟩ ⟨n1.symm,n1.symm⟩ ⟨n2.symm,n2.symm⟩,upd_same⟩
  · rintro σ H3 ⟨v4,rfl,s3,PA3,hl⟩
    walk_at "rd"
    exact q l H3 s3 nl0 hl
end
end Sp

set_option Elab.async false
set_option linter.all false
set_option maxRecDepth 100000
set_option maxHeartbeats 4000000


namespace Sp
open PySem L2
structure ZN (mg:Str→Option Value):Prop where
  str:mg "str"=none
  int:mg "int"=none
  max:mg "max"=none
  len:mg "len"=none
theorem str_ext {a b:Str} (h:a.cps.toList=b.cps.toList):a=b:=by
  cases a;cases b
  congr 1
  exact Array.toList_inj.mp h
theorem app_cps (a b:Str):(a ++ b).cps.toList=a.cps.toList ++ b.cps.toList:=by
  show (a.cps ++ b.cps).toList=_
  exact Array.toList_append
theorem line_one (z:Str) (n:Int):Tx.line z [n]=z ++ Tx.sp ++ Tx.num n:=by
  refine str_ext ?_
  rw [app_cps,app_cps]
  show (Str.join ⟨#[32]⟩ [z,Tx.num n]).cps.toList=_
  rw [Tx.join_glue]
  show z.cps.toList ++ 32 :: (Tx.num n).cps.toList=_
  rw [List.append_assoc]
  rfl
section
variable {P:Program}{w:World}{K:PySem.W.Frag}{mg:Str→Option Value}{base:Heap}{CP CD CB CL CN CS CO aW:Addr}
inductive SpLines (K:PySem.W.Frag) (vs:List V) (H:Hp) (Q:VK) (E:XK):Prop where
  | mk (wd dt dl rl sn:Addr) (ds rs:List Addr) (g:Cf) (s w:Sd.S) (c0:vs = [.ref wd]) (c1:WorldAt K H wd dt dl rl sn ds rs g w) (c2:g.Ok) (c3:Sd.Rel g.c s w) (c4:Small s) (c5:w.sent.length≤100) (c6:∀ l H',Same H H'→H l=none→H' l=some (.lst ((lines9 s).map V.str))→Q (.ref l) H'):SpLines K vs H Q E
noncomputable def spLines (K:PySem.W.Frag):Sp:=fun vs H Q E=>SpLines K vs H Q E
noncomputable def five (s:Sd.S):List (Str × Int):=[("content",s.con),("waiting",s.wai),("asked",s.ask),("missed",s.mis),("total",s.tot)]
theorem five_get {g:Cf}{s w:Sd.S} (R:Sd.Rel g.c s w) {dt rl sn:Addr}:∀ x ∈ five s,valV (worldK (wfOf g w dt rl sn)) (Sum.inr x.1:Key)=some (.int x.2):=by
  intro x hx
  unfold five at hx
  rcases List.mem_cons.mp hx with rfl | hx
  · exact R.con ▸ rfl
  rcases List.mem_cons.mp hx with rfl | hx
  · exact R.wai ▸ rfl
  rcases List.mem_cons.mp hx with rfl | hx
  · exact R.ask ▸ rfl
  rcases List.mem_cons.mp hx with rfl | hx
  · exact R.mis ▸ rfl
  rcases List.mem_cons.mp hx with rfl | hx
  · exact R.tot ▸ rfl
  cases hx
theorem five_short:∀ z ∈ (["content", "waiting", "asked", "missed", "total"]:List Str),z.length≤10:=by decide +kernel
theorem app_len (a b:Str):(a ++ b).length=a.length + b.length:=by
  show (a.cps ++ b.cps).size=_
  exact Array.size_append
theorem lines_are (s:Sd.S):lines9 s = [Tx.line "now" [s.now],Tx.line "running" [if s.run=true then 1 else 0]] ++ (five s).map (fun x=>Tx.line x.1 [x.2]) ++ [Tx.line "free" [s.fre]] ++ [Tx.line "sent" s.sent]:=rfl
theorem scLlines:FnScope ["_law_world", "_law_words", "_law_found", "_law_longest", "_law_sent"] ["_law_world"] (defScope s_Llines):=⟨rfl,rfl,rfl,by decide +kernel,rfl,by decide +kernel,by decide +kernel⟩
theorem ok_Llines {f:Addr}{fd:FuncData} (F:Fun K "_law_lines" "_law_lines" s_Llines f fd) (Z:ZN mg):FnOk P w K mg base CX0 1 f fd ["_law_world"] (spLines K):=by
  refine F.ok scLlines (fun vs H Q E h=>?_) (fun cdv A outer s₀ H vs Q E hr h=>?_)
  · obtain ⟨wd,dt,dl,rl,sn,ds,rs,g,s,w,rfl,_⟩:=h
    rfl
  obtain ⟨wd,dt,dl,rl,sn,ds,rs,g,s,w,rfl,W,og,R,sm,h100,q⟩:=h
  have hu:=hu_of hr
  have hw:=W.ob
  have hrl:=W.rls
  have rln:=og.r.ln
  have hT:=W.rt
  have hlen:=hT.len
  have sb:∀ {n:Int},n ∈ cnt s→n.natAbs.log2 < 1920:=fun h=>log_small (sm.c _ h).1 (sm.c _ h).2
  have nl:∀ {n:Int},n ∈ cnt s→(Tx.num n).length≤10:=fun h=>(Tx.num_len (sm.c _ h).1 (sm.c _ h).2).2
  refine ⟨_,%[%[(1),_,_,_,_,scLlines.nd,rfl,(Or.inl rfl),%[%[s!"s",%[s!"s",%[s!"s",%[s!"s",%[s!"s",s!"n",s!"g"|0],s!"g"|0],s!"g"|0],s!"g"|0],s!"g"|0]|23],s!"g",s!"f"|12],%[%[(2),_,_,_,_,scLlines.nd,rfl,(Or.inl rfl),%[%[%[op_add_str,s!"s",%[call_str_int,rfl,Z.str,s!"k",%[%[W_now,hu,s!"0"|7],s!"n",s!"g"|0],s!"d",s!"d",s!"g",rfl|16]|3],%[%[op_add_str,s!"s",%[call_str_int,rfl,Z.str,s!"k",%[%[call_int1,rfl,Z.int,s!"k",%[%[W_running,hu,s!"0"|7],s!"n",s!"g"|0],s!"d",s!"d",s!"g",rfl|16],s!"n",s!"g"|0],s!"d",s!"d",s!"g",rfl|16]|3],s!"n",s!"g"|0],s!"g"|0]|23],s!"g",s!"f"|12],%[%[(2),_,_,_,_,scLlines.nd,rfl,(Or.inl rfl),%[op_cat,s!"2",%[(defScope s_Llines),_,(["_law_world", "_law_words", "_law_found", "_law_longest", "_law_sent"]),(["_law_world", "_law_words", "_law_found", "_law_longest", "_law_sent", "_law_word"]),(["_law_word"]),_,_,_,_,_,rfl,rfl,rfl,(.of s!"k"),(@pi_list _ _ _ _ s!"1"),takes_name,(fun _ _ _ _ _=>@pg_name _ _ (5) _ (show List.Nodup (["_law_world", "_law_words", "_law_found", "_law_longest", "_law_sent", "_law_word"]:List Str) by decide +kernel) rfl (Or.inl rfl) s!"f"),(fun _ _ _ _ _=>@pif_nil _),(fun _ _ _ _ _=>%[op_add_str,%[op_add_str,s!"5",s!"s"|3],%[call_str_int,rfl,Z.str,s!"k",%[(@pe_dget _ _ _ _ _ _ hu s!"0" s!"5" (fun _ _=>rfl)),s!"n",s!"g"|0],s!"d",s!"d",s!"g",rfl|16]|3]),s!"g"|22]|3],s!"g",s!"f"|12],%[%[%[PySem.F.plainAttrs_list,PySem.F.slot_list_append,PySem.F.type_list_append,mt_append,s!"2",%[%[op_add_str,s!"s",%[call_str_int,rfl,Z.str,s!"k",%[%[(call_max2m rfl),rfl,Z.max,s!"k",%[s!"i",%[%[op_sub,%[W_free,hu,s!"0"|7],%[W_now,hu,s!"0"|7]|3],s!"n",s!"g"|0],s!"g"|0],s!"d",s!"d",s!"g",rfl|6],s!"n",s!"g"|0],s!"d",s!"d",s!"g",rfl|16]|3],s!"n",s!"g"|0],s!"g",s!"g",s!"g",s!"g",s!"g"|20],s!"g"|18],%[%[(3),_,_,_,_,scLlines.nd,rfl,(Or.inl rfl),%[(call_maxL rfl),rfl,Z.max,s!"k",%[%[(defScope s_Llines),_,(["_law_world", "_law_words", "_law_found", "_law_longest", "_law_sent"]),(["_law_world", "_law_words", "_law_found", "_law_longest", "_law_sent", "_law_rule"]),(["_law_rule"]),_,_,_,_,_,rfl,rfl,rfl,(.of s!"k"),(@pi_list _ _ _ _ %[W_rules,hu,s!"0"|7]),takes_name,(fun _ _ _ _ _=>@pg_name _ _ (5) _ (show List.Nodup (["_law_world", "_law_words", "_law_found", "_law_longest", "_law_sent", "_law_rule"]:List Str) by decide +kernel) rfl (Or.inl rfl) s!"f"),(fun _ _ _ _ _=>@pif_nil _),(fun _ _ _ _ _=>%[(ix_tupK (K:=K) rfl),s!"5",s!"i",(fun _ _=>rfl)|8]),s!"g"|22],s!"n",s!"g"|0],s!"d",s!"d",s!"g",rfl|6],s!"g",s!"f"|12],%[%[(4),_,_,_,_,scLlines.nd,rfl,(Or.inl rfl),(@pe_slice _ _ _ _ _ _ _ _ _ _ sl_list %[W_sent,hu,s!"0"|7] (@po_some _ _ _ %[(call_max2m rfl),rfl,Z.max,s!"k",%[s!"i",%[%[op_sub,%[call_len_seq,rfl,Z.len,s!"k",%[%[W_sent,hu,s!"0"|7],s!"n",s!"g"|0],s!"d",s!"d",s!"g",rfl|6],s!"3"|3],s!"n",s!"g"|0],s!"g"|0],s!"d",s!"d",s!"g",rfl|6]) (@po_none _)),s!"g",s!"f"|12],%[%[%[op_cat,s!"2",%[%[%[PySem.F.plainAttrs_str,PySem.F.slot_str_join,PySem.F.type_str_join,mt_join,s!"s",%[%[op_cat,%[%[s!"s",s!"n",s!"g"|0]|23],%[(defScope s_Llines),_,(["_law_world", "_law_words", "_law_found", "_law_longest", "_law_sent"]),(["_law_world", "_law_words", "_law_found", "_law_longest", "_law_sent", "_law_many"]),(["_law_many"]),_,_,_,_,_,rfl,rfl,rfl,(.of s!"k"),(@pi_list _ _ _ _ s!"4"),takes_name,(fun _ _ _ _ _=>@pg_name _ _ (5) _ (show List.Nodup (["_law_world", "_law_words", "_law_found", "_law_longest", "_law_sent", "_law_many"]:List Str) by decide +kernel) rfl (Or.inl rfl) s!"f"),(fun _ _ _ _ _=>@pif_nil _),(fun _ _ _ _ _=>%[call_str_int,rfl,Z.str,s!"k",%[s!"5",s!"n",s!"g"|0],s!"d",s!"d",s!"g",rfl|16]),s!"g"|22]|3],s!"n",s!"g"|0],s!"g",s!"g",s!"g",s!"g",s!"g"|20],s!"n",s!"g"|0]|23]|3]|11]|4]|2]|2]|2]|2]|2]|2],?_⟩
  dsimp only [cxOf,Cx.nox]
  walk_at "rd"
  intro l0 n0
  have s1:=Same.new n0 (.lst [.str "content",.str "waiting",.str "asked",.str "missed",.str "total"])
  have h0:(upd H l0 (.lst [.str "content",.str "waiting",.str "asked",.str "missed",.str "total"])) l0=some (.lst (((five s).map (·.1)).map V.str)):=upd_same
  have W1:=W.same s1
  have hw1:=W1.ob
  generalize upd H l0 (.lst [.str "content",.str "waiting",.str "asked",.str "missed",.str "total"])=H1 at s1 h0 W1 hw1 ⊢
  have rn:=R.now
  have rr:=R.run
  have k1:w.now.natAbs.log2 < 1920:=by rw [← rn];exact sb (by simp [cnt])
  have k2:(if w.run=true then (1:Int) else 0).natAbs.log2 < 1920:=by rw [← rr];exact sb (by simp [cnt])
  have z1:(Str.ofString "now ").length + (Str.ofString (toString w.now)).length≤sizeLine:=by
    have:=nl (n:=w.now) (by rw [← rn];simp [cnt])
    exact Nat.le_trans (Nat.add_le_add (show (Str.ofString "now ").length≤10 by decide +kernel) this) (by rw [sizeLine_eq];decide)
  have z2:(Str.ofString "running ").length + (Str.ofString (toString (if w.run=true then (1:Int) else 0))).length≤sizeLine:=by
    have:=nl (n:=(if w.run=true then (1:Int) else 0)) (by rw [← rr];simp [cnt])
    exact Nat.le_trans (Nat.add_le_add (show (Str.ofString "running ").length≤10 by decide +kernel) this) (by rw [sizeLine_eq];decide)
  walk_at "rd"
  refine Or.inr ⟨_,rfl,?_⟩
  walk_at "rd"
  intro l2 n2
  have s2:=s1.trans (Same.new n2 (.lst [.str (Str.ofString "now " ++ Str.ofString (toString w.now)),.str (Str.ofString "running " ++ Str.ofString (toString (if w.run=true then (1:Int) else 0)))]))
  have h02:=at_new (o:=.lst [.str (Str.ofString "now " ++ Str.ofString (toString w.now)),.str (Str.ofString "running " ++ Str.ofString (toString (if w.run=true then (1:Int) else 0)))]) n2 h0
  have h2:(upd H1 l2 (.lst [.str (Str.ofString "now " ++ Str.ofString (toString w.now)),.str (Str.ofString "running " ++ Str.ofString (toString (if w.run=true then (1:Int) else 0)))])) l2=some (.lst ([Tx.line "now" [s.now],Tx.line "running" [if s.run=true then 1 else 0]].map V.str)):=by
    rw [upd_same,rn,rr,line_one,line_one,show Str.ofString "now "=Str.ofString "now" ++ Tx.sp by decide +kernel,show Str.ofString "running "=Str.ofString "running" ++ Tx.sp by decide +kernel]
    rfl
  generalize upd H1 l2 _=H2 at s2 h02 h2 ⊢
  have W2:=W.same s2
  have hw2:=W2.ob
  walk_at "rd"
  intro acc n3
  refine comp_list (xs:=((five s).map (·.1)).map V.str) (fun i ys H3=>ys=(((five s).take i).map (fun x=>Tx.line x.1 [x.2])).map V.str∧Same H2 H3∧H3 acc=some (.lst ys)) ?_ ?_ ?_ ?_
  · exact ⟨rfl,Same.new n3 _,upd_same⟩
  · rintro i ys H3 _ ⟨_,s3,_⟩
    exact SqL.of (s3 _ _ h02)
  · rintro i x ys H3 hi hx ⟨rfl,s3,hac⟩
    obtain ⟨y,ey,rfl⟩:∃ y,(five s)[i]?=some y∧x = .str y.1:=by
      rw [List.getElem?_map,List.getElem?_map] at hx
      cases e:(five s)[i]? with
      | none=>rw [e] at hx;cases hx
      | some n=>rw [e] at hx;exact ⟨n,rfl,(Option.some.inj hx).symm⟩
    have hmem:=List.mem_of_getElem? ey
    have hy2:y.2 ∈ cnt s:=by
      unfold five at hmem
      simp only [List.mem_cons,List.not_mem_nil,or_false] at hmem
      rcases hmem with rfl | rfl | rfl | rfl | rfl <;> simp [cnt]
    have hy1:y.1.length≤10:=five_short y.1 (List.mem_map_of_mem (f:=(·.1)) hmem)
    have hD:=DGet.k (k:=Sum.inr y.1) (s3 _ _ hw2)
    have hv:=five_get R (dt:=dt) (rl:=rl) (sn:=sn) y hmem
    rw [hv] at hD
    have hlg:=sb hy2
    have hnl:=nl hy2
    have hsl:(Str.ofString " ").length=1:=by decide +kernel
    have z3:y.1.length + (Str.ofString " ").length≤sizeLine:=by rw [sizeLine_eq];omega
    have z4:(y.1 ++ Str.ofString " ").length + (Str.ofString (toString y.2)).length≤sizeLine:=by
      have hnl:(Str.ofString (toString y.2)).length≤10:=hnl
      rw [sizeLine_eq,app_len];omega
    walk_at "rd"
    have hsz:((((five s).take i).map (fun x=>Tx.line x.1 [x.2])).map V.str).length < sizeLine:=by
      rw [List.length_map,List.length_map,List.length_take,sizeLine_eq]
      show min i 5 < _
      omega
    refine ⟨hsz,cstep hi ⟨?_,s3.mut n3,upd_same⟩⟩
    rw [List.take_succ,ey,List.map_append,List.map_append]
    show _=_ ++ [V.str (Tx.line y.1 [y.2])]
    rw [line_one,← Tx.sp_is]
    rfl
  · rintro ys H3 ⟨rfl,s3,hac⟩
    rw [List.length_map,List.length_map,List.take_length] at hac
    have W3:=W2.same s3
    have h23:=s3 _ _ h2
    walk_at "rd"
    intro l4 n4
    have sA:=(s2.trans s3).trans (Same.new n4 (.lst ([Tx.line "now" [s.now],Tx.line "running" [if s.run=true then 1 else 0]].map V.str ++ ((five s).map (fun x=>Tx.line x.1 [x.2])).map V.str)))
    have h4:(upd H3 l4 (.lst ([Tx.line "now" [s.now],Tx.line "running" [if s.run=true then 1 else 0]].map V.str ++ ((five s).map (fun x=>Tx.line x.1 [x.2])).map V.str))) l4=some (.lst (([Tx.line "now" [s.now],Tx.line "running" [if s.run=true then 1 else 0]] ++ (five s).map (fun x=>Tx.line x.1 [x.2])).map V.str)):=by rw [upd_same,← List.map_append]
    generalize upd H3 l4 _=H4 at sA h4 ⊢
    have n4':H l4=none:=(s2.trans s3).free n4
    have W4:=W.same sA
    have hw4:=W4.ob
    have rf:=R.fre
    have k3:(max 0 (w.fre - w.now)).natAbs.log2 < 1920:=by rw [← rf];exact sb (by simp [cnt])
    have z5:(Str.ofString "free ").length + (Str.ofString (toString (max 0 (w.fre - w.now)))).length≤sizeLine:=by
      have:=nl (n:=max 0 (w.fre - w.now)) (by rw [← rf];simp [cnt])
      exact Nat.le_trans (Nat.add_le_add (show (Str.ofString "free ").length≤10 by decide +kernel) this) (by rw [sizeLine_eq];decide)
    have hsz:(([Tx.line "now" [s.now],Tx.line "running" [if s.run=true then 1 else 0]] ++ (five s).map (fun x=>Tx.line x.1 [x.2])).map V.str).length < sizeLine:=by
      rw [sizeLine_eq]
      show 7 < _
      decide
    walk_at "rd"
    generalize hH5:upd H4 l4 _=H5
    have sB:Same H H5:=by rw [← hH5];exact sA.mut n4'
    have h5:H5 l4=some (.lst (([Tx.line "now" [s.now],Tx.line "running" [if s.run=true then 1 else 0]] ++ (five s).map (fun x=>Tx.line x.1 [x.2]) ++ [Tx.line "free" [s.fre]]).map V.str)):=by
      rw [← hH5,upd_same,rf,List.map_append (l₂:=[_]),line_one "free",show Str.ofString "free "=Str.ofString "free" ++ Tx.sp by decide +kernel]
      rfl
    clear hH5
    have W5:=W.same sB
    have hw5:=W5.ob
    have hrl5:=W5.rls
    have hT5:=W5.rt
    walk_at "rd"
    intro ac2 n6
    refine comp_list (xs:=rs.map V.ref) (fun i ys H6=>ys=((g.rules.take i).map (·.1)).map V.int∧Same H5 H6∧H6 ac2=some (.lst ys)) ?_ ?_ ?_ ?_
    · exact ⟨rfl,Same.new n6 _,upd_same⟩
    · rintro i ys H6 _ ⟨_,s6,_⟩
      exact SqL.of (s6 _ _ hrl5)
    · rintro i x ys H6 hi hx ⟨rfl,s6,hacc⟩
      obtain ⟨r,rfl,er,hlt⟩:=getRef hx
      have hTr:=hT5.at_ i r er
      walk_at "rd"
      refine ⟨small1000 (by rw [List.length_map,List.length_map,List.length_take];omega),cstep hi ⟨?_,s6.mut n6,upd_same⟩⟩
      rw [List.take_succ,List.map_append,List.map_append,(getDr (ps:=g.rules) (i:=i) (by omega)).2]
      rfl
    · rintro ys H6 ⟨rfl,s6,hacc⟩
      rw [List.take_of_length_le (by rw [List.length_map];omega)] at hacc
      have sC:=sB.trans s6
      have W6:=W.same sC
      have hw6:=W6.ob
      have hs6:=W6.se
      have h56:=s6 _ _ h5
      refine ⟨ac2,g.rules.map (·.1),rfl,SqL.of hacc,by rw [List.length_map];omega,fun M hM hMx=>?_⟩
      have eM:M=Sd.longest g.c.rules:=Sd.maxL_uniq hM hMx
      subst eM
      obtain ⟨L,hL⟩:∃ L,L=Sd.longest g.c.rules:=⟨_,rfl⟩
      rw [← hL]
      have hml:((w.sent.map V.int).length:Int)=(w.sent.length:Nat):=by rw [List.length_map]
      iterate 7 walk_at "r1"
      refine ⟨_,_,rfl,_,rfl,?_⟩
      refine ⟨sn,w.sent.map V.int,rfl,SqL.of hs6,?_⟩
      intro p1 np1
      have e1:cutV (w.sent.map V.int) (some (max 0 (((w.sent.map V.int).length:Int) - L))) none=s.sent.map V.int:=by
        rw [List.length_map]
        have e:(max 0 ((w.sent.length:Int) - L))=(((max 0 ((w.sent.length:Int) - L)).toNat:Nat):Int):=by omega
        rw [e,cut_from,R.sent,← hL]
        unfold Sd.lastN
        rw [List.map_drop]
        congr 1
        omega
      rw [e1]
      have s7:=Same.new np1 (.lst (s.sent.map V.int))
      have hp1:(upd H6 p1 (.lst (s.sent.map V.int))) p1=some (.lst (s.sent.map V.int)):=upd_same
      generalize upd H6 p1 (.lst (s.sent.map V.int))=H7 at s7 hp1 ⊢
      walk_at "rd"
      intro p2 np2
      have s8:=Same.new np2 (.lst [.str "sent"])
      have hp2:(upd H7 p2 (.lst [.str "sent"])) p2=some (.lst ([Str.ofString "sent"].map V.str)):=upd_same
      have hp18:=s8 _ _ hp1
      generalize upd H7 p2 (.lst [.str "sent"])=H8 at s8 hp2 hp18 ⊢
      walk_at "rd"
      intro ac3 n9
      refine comp_list (xs:=s.sent.map V.int) (fun i ys H9=>ys=((s.sent.take i).map Tx.num).map V.str∧Same H8 H9∧H9 ac3=some (.lst ys)) ?_ ?_ ?_ ?_
      · exact ⟨rfl,Same.new n9 _,upd_same⟩
      · rintro i ys H9 _ ⟨_,s9,_⟩
        exact SqL.of (s9 _ _ hp18)
      · rintro i x ys H9 hi hx ⟨rfl,s9,hac⟩
        obtain ⟨n,en,rfl⟩:∃ n,s.sent[i]?=some n∧x = .int n:=by
          rw [List.getElem?_map] at hx
          cases e:s.sent[i]? with
          | none=>rw [e] at hx;cases hx
          | some n=>rw [e] at hx;exact ⟨n,rfl,(Option.some.inj hx).symm⟩
        have hnb:=sm.st n (List.mem_of_getElem? en)
        have hlg:=log_small hnb.1 hnb.2
        have hsl:=sm.ln
        have hsz:(((s.sent.take i).map Tx.num).map V.str).length < sizeLine:=by
          rw [List.length_map,List.length_map,List.length_take,sizeLine_eq]
          omega
        walk_at "rd"
        refine cstep hi ⟨?_,s9.mut n9,upd_same⟩
        rw [List.take_succ,en,List.map_append,List.map_append]
        rfl
      · rintro ys H9 ⟨rfl,s9,hac⟩
        rw [List.length_map,List.take_length] at hac
        have hp29:=s9 _ _ hp2
        have hsl:=sm.ln
        have sD:=((sC.trans s7).trans s8).trans s9
        have h59:=s9 _ _ (s8 _ _ (s7 _ _ h56))
        refine ⟨p2,ac3,[Str.ofString "sent"].map V.str,(s.sent.map Tx.num).map V.str,rfl,rfl,hp29,hac,?_,fun lj nj=>?_⟩
        · rw [List.length_map,List.length_map,List.length_map,sizeLine_eq]
          show 1 + _≤_
          omega
        have sE:=sD.trans (Same.new nj (.lst ([Str.ofString "sent"].map V.str ++ (s.sent.map Tx.num).map V.str)))
        have h5j:=at_new (o:=.lst ([Str.ofString "sent"].map V.str ++ (s.sent.map Tx.num).map V.str)) nj h59
        refine ⟨_,lj,Str.ofString "sent" :: s.sent.map Tx.num,rfl,rfl,by rw [upd_same,← List.map_append];rfl,?_,?_⟩
        · rw [Tx.sp_is]
          refine Tx.joinOk (fun t ht=>?_) (by rw [List.length_cons,List.length_map];omega)
          rcases List.mem_cons.mp ht with e | e
          · rw [e];exact s!"k"
          · obtain ⟨n,hn',rfl⟩:=List.mem_map.mp e
            exact (Tx.num_len (sm.st n hn').1 (sm.st n hn').2).2
        · rw [Tx.sp_is]
          generalize upd H9 lj _=H10 at sE h5j ⊢
          walk_at "rd"
          intro p3 n11
          have s11:=Same.new n11 (.lst [V.str (Txt.join Tx.sp (Str.ofString "sent" :: List.map Tx.num s.sent))])
          refine ⟨l4,p3,_,_,rfl,rfl,s11 _ _ h5j,upd_same,by rw [sizeLine_eq];show 8 + 1≤_;decide,fun lr nr=>?_⟩
          have sF:=sE.trans s11
          refine q lr _ (sF.trans (Same.new nr _)) (sF.free nr) ?_
          rw [upd_same,lines_are,List.map_append (l₂:=[Tx.line "sent" s.sent])]
          rfl
end
end Sp

set_option Elab.async false
set_option linter.all false
set_option maxRecDepth 100000
set_option maxHeartbeats 4000000


theorem L2.for_rangeZ {lo:Int}{n:Nat}{g:L2.TG}{tb:L2.TS}{D:L2.Ends}{σ:L2.St}{H:L2.Hp} (Pv:Nat→L2.St→L2.Hp→Prop) (h0:Pv 0 σ H)
    (hs:∀ i σ H,i < n→Pv i σ H→∀ (R:L2.VK) (Z:L2.St→L2.Hp→Prop),g (.int (lo + i)) σ H fun σ2 H2=>tb { nx:=Pv (i + 1),rt:=R,bk:=Z,ct:=Pv (i + 1) } σ2 H2) (hd:∀ σ H,Pv n σ H→D.nx σ H) :
    ∃ W:Nat→Nat→L2.St→L2.Hp→Prop,(∃ m,W 0 m σ H)∧∀ i m σ H,W i m σ H →
      ((L2.Itr lo n).stop i H∧D.nx σ H) ∨ ((L2.Itr lo n).go i H∧∃ N:L2.St→L2.Hp→Prop,(∀ σ' H',N σ' H'→∃ m',m' < m∧W (i + 1) m' σ' H')∧∀ x H',(L2.Itr lo n).yld i H x H'→g x σ H' fun σ2 H2=>tb { D with nx:=N,ct:=N,bk:=D.nx } σ2 H2):=
  L2.for_range Pv h0 (fun i σ H hi p=>hs i σ H hi p D.rt D.nx) hd
namespace Sp
open PySem L2
section
variable {P:Program}{w:World}{K:PySem.W.Frag}{mg:Str→Option Value}{base:Heap}{CP CD CB CL CN CS CO aW:Addr}
noncomputable def spLaw (K:PySem.W.Frag):Sp:=fun vs H Q _=>∃ (a:Addr) (ns:List Int),vs = [.ref a]∧SqL K H a (ns.map V.int)∧ns.length≤63∧∀ H',Q (.bl true) H'
theorem ok_s1 {g:Cf} (o:g.Ok) (b:Bool):Sd.Ok g.c (s1 b):=by
  have h1:=o.good.L1.1
  cases b
  · exact ⟨by decide,by decide,by decide,by decide,by decide,by decide,⟨by decide,by decide⟩,by show ((0:Nat):Int)≤_;omega,fun x hx=>absurd hx (by simp [s1,s0]),by decide⟩
  · exact ⟨by decide,by decide,by decide,by decide,by decide,by decide,⟨by decide,by decide⟩,by show ((0:Nat):Int)≤_;omega,fun x hx=>absurd hx (by simp [s1,s0]),by decide⟩
theorem lastN_nil {L:Int}:Sd.lastN L [] = []:=by unfold Sd.lastN;simp
theorem plain_an (an:Sd.An):plainV (anV an):=by cases an <;> exact True.intro
theorem rel_s1 {g:Cf} (b:Bool):Sd.Rel g.c (s1 b) (s1 b):=by
  cases b
  · exact ⟨rfl,rfl,rfl,rfl,rfl,rfl,rfl,rfl,lastN_nil.symm⟩
  · exact ⟨rfl,rfl,rfl,rfl,rfl,rfl,rfl,rfl,lastN_nil.symm⟩
theorem book_s1 {g:Cf} (b:Bool):Sd.Book g.c (s1 b) [] (s1 b).con 0:=by
  cases b
  · exact ⟨rfl,rfl,rfl,fun x hx=>absurd hx (by simp),lastN_nil.symm,rfl⟩
  · exact ⟨rfl,rfl,rfl,fun x hx=>absurd hx (by simp),lastN_nil.symm,rfl⟩
inductive Hid (A:Prop):Prop where
  | mk:A→Hid A
  | also:A→Hid A
theorem Hid.out {A:Prop} (h:Hid A):A:=by cases h <;> assumption
theorem wd_ne {d:Sd.Wd}{x:String}{e:Sd.Wd} (h:d ≠ e) (hx:wdS e=Str.ofString x):decide (V.str (wdS d)=V.str (Str.ofString x))=false:=by
  refine decide_eq_false fun z=>h ?_
  have z:=V.str.inj z
  rw [← hx] at z
  cases d <;> cases e <;> first | rfl | exact absurd z s!"d"
theorem outOf_len {c:Sd.C}{s:Sd.S}{out:List Int}{d:Sd.Wd}{b m:Int}:(Sd.outOf c s out d b m).length≤out.length + 1:=by
  cases d with
  | tick=>show (out ++ [_]).length≤_;rw [List.length_append];exact Nat.le_refl _
  | report =>
    show (if (Sd.deed c s .report b m).1 = .non then out.set (Sd.plc out b) m else out).length≤_
    split
    · rw [List.length_set];omega
    · omega
  | press=>exact Nat.le_succ _
  | fill=>exact Nat.le_succ _
  | stop=>exact Nat.le_succ _
  | start=>exact Nat.le_succ _
theorem flow_le {g:Cf} (og:g.Ok) {s:Sd.S}{d:Sd.Wd}{an:Sd.An}{fl wa m:Int} (hm:-1≤m∧m≤1000001):(fl + if d = .fill∧an = .non then m else 0)≤fl + 3000000∧(wa + (if d = .tick∧s.run=true then g.c.due s.now else 0) + if d = .press∧an = .non then m else 0)≤wa + 3000000:=by
  have h:=due_le og.d (t:=s.now)
  have h:g.c.due s.now≤1000000:=h
  constructor
  · split <;> omega
  · split <;> split <;> omega
theorem wdeed_len {c:Sd.C}{s:Sd.S}{d:Sd.Wd}{b m:Int}:(Sd.wdeed c s d b m).2.sent.length≤s.sent.length + 1:=by
  cases d with
  | tick=>show (s.sent ++ [_]).length≤_;rw [List.length_append];exact Nat.le_refl _
  | report =>
    show (Sd.reportS c s b m).2.sent.length≤_
    unfold Sd.reportS
    split
    · show (s.sent.set _ _).length≤_
      rw [List.length_set];omega
    · exact Nat.le_succ _
  | press=>show (Sd.wpressS c s m).2.sent.length≤_;unfold Sd.wpressS;split <;> exact Nat.le_succ _
  | fill=>show (Sd.fillS s m).2.sent.length≤_;unfold Sd.fillS;split <;> exact Nat.le_succ _
  | stop=>exact Nat.le_succ _
  | start=>exact Nat.le_succ _
noncomputable def Bk (g:Cf) (s:Sd.S) (i:Nat):Prop:=∃ out fl wa,Sd.Book g.c s out fl wa∧fl≤1000 + 3000000 * (i:Int)∧wa≤3000000 * (i:Int)∧out.length≤i
theorem Bk.deed {g:Cf}{s:Sd.S}{i:Nat} (h:Bk g s i) (og:g.Ok) (ok:Sd.Ok g.c s) (d:Sd.Wd) (back m:Int) (hm:-1≤m∧m≤1000001):Bk g (Sd.deed g.c s d back m).2 (i + 1):=by
  obtain ⟨out,fl,wa,b,h1,h2,h3⟩:=h
  have q:=flow_le og (s:=s) (d:=d) (an:=(Sd.deed g.c s d back m).1) (fl:=fl) (wa:=wa) hm
  have l:=outOf_len (c:=g.c) (s:=s) (out:=out) (d:=d) (b:=back) (m:=m)
  exact ⟨_,_,_,b.deed og.good ok d back m,by omega,by omega,by omega⟩
theorem Bk.small {g:Cf}{s:Sd.S}{i:Nat} (h:Bk g s i) (og:g.Ok) (ok:Sd.Ok g.c s) (hi:i≤100):Small s:=by
  obtain ⟨out,fl,wa,b,h1,h2,h3⟩:=h
  exact small_of og ok b (by omega) (by omega) (by omega)
theorem bk_s1 {g:Cf} (b:Bool):Bk g (s1 b) 0:=⟨[],_,0,book_s1 b,by cases b <;> decide,by decide,Nat.le_refl _⟩
theorem Two.done {H H':Hp}{p dx dy rl sn wd dt dl wrl wsn wsn':Addr}{ds rs:List Addr}{g:Cf}{s w w':Sd.S} (t:Two K CP CD H p dx dy rl sn wd dt dl wrl wsn ds rs g s w) (b:But wd wsn H H') (h:wsn'=wsn ∨ H wsn'=none) (a:WorldAt K H' wd dt dl wrl wsn' ds rs g w'):Two K CP CD H' p dx dy rl sn wd dt dl wrl wsn' ds rs g s w':=by
  have kw:=t.wa.ob
  have ks:=t.wa.se
  obtain ⟨dx',pt,sm,rs',h1,_,_⟩:=t.pa.day.ex
  refine ⟨t.pa.but kw True.intro ks True.intro b ⟨?_,?_⟩ ⟨?_,?_⟩ ⟨?_,t.sp.rw_⟩ ⟨?_,t.sp.ss⟩,a,⟨t.sp.sd,t.sp.sr,?_,?_⟩⟩
  · exact ne_of t.pa.ob kw (by intro z;cases z)
  · exact ne_of t.pa.ob ks (by intro z;cases z)
  · exact ne_of h1 kw (by intro z;cases z)
  · exact ne_of h1 ks (by intro z;cases z)
  · exact ne_of t.pa.rls kw (by intro z;cases z)
  · exact ne_of t.pa.se kw (by intro z;cases z)
  · rcases h with h | h
    · rw [h];exact t.sp.ss
    · exact ne_of_none t.pa.se h
  · rcases h with h | h
    · rw [h];exact t.sp.rw_
    · exact ne_of_none t.pa.rls h
structure Three (K:PySem.W.Frag) (CP CD:Addr) (H0 H:Hp) (p dx dy rl sn p2 dx2 dy2 rl2 sn2 wd dt dl wrl wsn:Addr) (ds rs:List Addr) (g:Cf) (s s2 w:Sd.S):Prop where
  t:Two K CP CD H p dx dy rl sn wd dt dl wrl wsn ds rs g s w
  t2:Two K CP CD H p2 dx2 dy2 rl2 sn2 wd dt dl wrl wsn ds rs g s2 w
  pp:p ≠ p2
  pd:p ≠ dy2
  dp:p2 ≠ dy
  ss:sn ≠ sn2
  sr:sn ≠ rl2
  rs_:sn2 ≠ rl
  f:Fresh4 H0 p sn wd wsn
  fp:H0 p2=none
  fs:H0 sn2=none
  sm:Same H0 H
variable {H0 H H':Hp}{p dx dy rl sn p2 dx2 dy2 rl2 sn2 wd dt dl wrl wsn wsn':Addr}{ds rs:List Addr}{g:Cf}{s s' s2 s2' v v':Sd.S}
theorem Three.same (t:Three K CP CD H0 H p dx dy rl sn p2 dx2 dy2 rl2 sn2 wd dt dl wrl wsn ds rs g s s2 v) (e:Same H H'):Three K CP CD H0 H' p dx dy rl sn p2 dx2 dy2 rl2 sn2 wd dt dl wrl wsn ds rs g s s2 v:=
  ⟨t.t.same e,t.t2.same e,t.pp,t.pd,t.dp,t.ss,t.sr,t.rs_,t.f,t.fp,t.fs,t.sm.trans e⟩
theorem Three.one (t:Three K CP CD H0 H p dx dy rl sn p2 dx2 dy2 rl2 sn2 wd dt dl wrl wsn ds rs g s s2 v) (b:But p sn H H') (a:PumpAt K CP CD H' p dx dy rl sn rs g s'):Three K CP CD H0 H' p dx dy rl sn p2 dx2 dy2 rl2 sn2 wd dt dl wrl wsn ds rs g s' s2 v:=by
  have T:=t.t.pump b a
  have kp:=t.t.pa.ob
  have ks:=t.t.pa.se
  obtain ⟨dx',pt,sm,rs',h1,_,_⟩:=id t.t2.pa.day.ex
  have q:=t.t2.pa
  have e1:p2 ≠ sn:=ne_of q.ob ks (by intro z;cases z)
  have e2:dy2 ≠ sn:=ne_of h1 ks (by intro z;cases z)
  have e3:rl2 ≠ p:=ne_of q.rls kp (by intro z;cases z)
  have e4:sn2 ≠ p:=ne_of q.se kp (by intro z;cases z)
  exact ⟨T,⟨q.but kp True.intro ks True.intro b ⟨t.pp.symm,e1⟩ ⟨t.pd.symm,e2⟩ ⟨e3,t.sr.symm⟩ ⟨e4,t.ss.symm⟩,T.wa,t.t2.sp⟩,t.pp,t.pd,t.dp,t.ss,t.sr,t.rs_,t.f,t.fp,t.fs,same_but t.sm b t.f.p t.f.sn⟩
theorem Three.two (t:Three K CP CD H0 H p dx dy rl sn p2 dx2 dy2 rl2 sn2 wd dt dl wrl wsn ds rs g s s2 v) (b:But p2 sn2 H H') (a:PumpAt K CP CD H' p2 dx2 dy2 rl2 sn2 rs g s2'):Three K CP CD H0 H' p dx dy rl sn p2 dx2 dy2 rl2 sn2 wd dt dl wrl wsn ds rs g s s2' v:=by
  have T:=t.t2.pump b a
  have kp:=t.t2.pa.ob
  have ks:=t.t2.pa.se
  obtain ⟨dx',pt,sm,rs',h1,_,_⟩:=id t.t.pa.day.ex
  have q:=t.t.pa
  have e1:p ≠ sn2:=ne_of q.ob ks (by intro z;cases z)
  have e2:dy ≠ sn2:=ne_of h1 ks (by intro z;cases z)
  have e3:rl ≠ p2:=ne_of q.rls kp (by intro z;cases z)
  have e4:sn ≠ p2:=ne_of q.se kp (by intro z;cases z)
  exact ⟨⟨q.but kp True.intro ks True.intro b ⟨t.pp,e1⟩ ⟨t.dp.symm,e2⟩ ⟨e3,t.rs_.symm⟩ ⟨e4,t.ss⟩,T.wa,t.t.sp⟩,T,t.pp,t.pd,t.dp,t.ss,t.sr,t.rs_,t.f,t.fp,t.fs,same_but t.sm b t.fp t.fs⟩
theorem Three.done (t:Three K CP CD H0 H p dx dy rl sn p2 dx2 dy2 rl2 sn2 wd dt dl wrl wsn ds rs g s s2 v) (b:But wd wsn H H') (h:wsn'=wsn ∨ H wsn'=none) (a:WorldAt K H' wd dt dl wrl wsn' ds rs g v'):Three K CP CD H0 H' p dx dy rl sn p2 dx2 dy2 rl2 sn2 wd dt dl wrl wsn' ds rs g s s2 v':=by
  have f':H0 wsn'=none:=by
    rcases h with e | e
    · rw [e];exact t.f.ws
    · exact t.sm.free e
  exact ⟨t.t.done b h a,t.t2.done b h a,t.pp,t.pd,t.dp,t.ss,t.sr,t.rs_,⟨t.f.p,t.f.sn,t.f.wd,f'⟩,t.fp,t.fs,same_but t.sm b t.f.wd t.f.ws⟩
theorem Three.put {x:Addr}{xs ys:List V} (t:Three K CP CD H0 H p dx dy rl sn p2 dx2 dy2 rl2 sn2 wd dt dl wrl wsn ds rs g s s2 v) (ex:H x=some (.lst xs)) (f:H0 x=none) (n1:x ≠ rl) (n2:x ≠ sn) (n3:x ≠ dl) (n4:x ≠ wrl) (n5:x ≠ wsn) (m1:x ≠ rl2) (m2:x ≠ sn2):Three K CP CD H0 (upd H x (.lst ys)) p dx dy rl sn p2 dx2 dy2 rl2 sn2 wd dt dl wrl wsn ds rs g s s2 v:=
  ⟨t.t.other ex But.put n1 n2 n3 n4 n5,t.t2.other ex But.put m1 m2 n3 n4 n5,t.pp,t.pd,t.dp,t.ss,t.sr,t.rs_,t.f,t.fp,t.fs,t.sm.mut f⟩
theorem told_head {c:Sd.C}{s:Sd.S}:∀ k,∃ r,told c s (k + 1)=Sd.many c s :: r
  | 0=>⟨[],rfl⟩
  | k + 1=>by
    obtain ⟨r,e⟩:=told_head (c:=c) (s:=s) k
    refine ⟨r ++ [Sd.many c (tickN c (k + 1) s)],?_⟩
    show told c s (k + 1) ++ [_]=_
    rw [e]
    rfl
theorem at_zero {x:V}{xs:List V}:atI (x :: xs) 0=some x:=by
  unfold atI ixN
  rw [List.length_cons,if_pos (by omega),if_pos (by omega)]
  rfl
theorem self_str:∀ (ts:List Str),okVs (ts.map V.str) (ts.map V.str)=true∧eqVs (ts.map V.str) (ts.map V.str)=true
  | []=>⟨rfl,rfl⟩
  | t :: ts=>by
    obtain ⟨h1,h2⟩:=self_str ts
    constructor
    · show (okP (.str t) (.str t) && _)=true
      rw [h1,Bool.and_true]
      rfl
    · show (resP (.str t) (.str t) && _)=true
      rw [h2,Bool.and_true]
      show decide _=true
      exact decide_eq_true rfl
theorem self_int:∀ (ts:List Int),okVs (ts.map V.int) (ts.map V.int)=true∧eqVs (ts.map V.int) (ts.map V.int)=true
  | []=>⟨rfl,rfl⟩
  | t :: ts=>by
    obtain ⟨h1,h2⟩:=self_int ts
    constructor
    · show (okP (.int t) (.int t) && _)=true
      rw [h1,Bool.and_true]
      rfl
    · show (resP (.int t) (.int t) && _)=true
      rw [h2,Bool.and_true]
      show decide _=true
      exact decide_eq_true rfl
end
section
variable {P:Program}{w:World}{K:PySem.W.Frag}{mg:Str→Option Value}{base:Heap}{CP CD CB CL CN CS CO aW:Addr}
theorem sclaw:FnScope ["_law_script", "_law_pump", "_law_world", "_law_k", "_law_word", "_law_back", "_law_many", "_law_lines_here", "_law_setting_here", "_law_day_here", "_law_other", "_law_told", "_law_due_here"] ["_law_script"] (defScope s_law):=⟨rfl,rfl,rfl,by decide +kernel,rfl,by decide +kernel,by decide +kernel⟩
theorem ok_law30 {f f1 f2 f3 f4 f5 f6 f7 f8 f9 g0 g1 g2 g3 g4 g5 g6:Addr}{fd fd1 fd2 fd3 fd4 fd5 fd6 fd7 fd8 fd9 gd0 gd1 gd2 gd3 gd4 gd5 gd6:FuncData} (F:Fun K "law" "law" s_law f fd) (Z:ZL mg)
    (B_Lmix:Fn P w K mg base CX0 2 "_law_mix" ["_law_script", "_law_k"] (spMix K) f1 fd1) (B_Lstart:Fn P w K mg base CX0 6 "_law_start" ["_law_script"] (spLStart K CP CD) f2 fd2) (B_Ldeed:Fn P w K mg base CX0 3 "_law_deed" ["_law_script", "_law_k"] (spDeed K) f3 fd3)
    (B_Lsetting:Fn P w K mg base CX0 3 "_law_setting" ["_law_script", "_law_k"] (spSett K) f4 fd4) (B_Day:Mc P w K mg base (CXE P w) 4 "Day" CD ["self", "ticks", "parts"] (spDayI K CD CB) f5 fd5)
    (B_saved:Fn P w K mg base CX0 2 "saved" ["pump"] (spSaved K CP CD) f6 fd6) (B_loaded:Fn P w K mg base CX0 5 "loaded" ["lines", "day", "rules", "lock", "dose", "hold"] (spLoaded K CP CD) f7 fd7) (B_Lasked:Fn P w K mg base CX0 6 "_law_asked" ["_law_pump", "_law_word", "_law_back", "_law_many"] (spAsked K CP CD) f8 fd8)
    (B_Lwhole:Fn P w K mg base CX0 1 "_law_whole" ["_law_found"] spWhole f9 fd9) (B_Ldone:Fn P w K mg base CX0 3 "_law_done" ["_law_world", "_law_word", "_law_back", "_law_many"] (spLDone K) g0 gd0) (B_Lis:Fn P w K mg base CX0 1 "_law_is" ["_law_found", "_law_due_here"] spIs g1 gd1)
    (B_Lsame:Fn P w K mg base CX0 4 "_law_same" ["_law_pump", "_law_world"] (spSame K CP CD) g2 gd2) (B_Llines:Fn P w K mg base CX0 1 "_law_lines" ["_law_world"] (spLines K) g3 gd3) (B_ahead:Fn P w K mg base CX0 6 "ahead" ["pump", "ticks"] (spAhead K CP CD) g4 gd4)
    (B_tick:Fn P w K mg base CX0 4 "tick" ["pump"] (spTick K CP CD) g5 gd5) (B_Ltick:Fn P w K mg base CX0 2 "_law_tick" ["_law_world"] (spLTick K) g6 gd6):FnOk P w K mg base CX0 8 f fd ["_law_script"] (spLaw K):=by
  refine F.ok sclaw (fun vs H Q E h=>?_) (fun cdv A outer s₀ H vs Q E hr h=>?_)
  · obtain ⟨a,ns,rfl,_⟩:=h
    rfl
  obtain ⟨a,ns,rfl,hS,h63,q⟩:=h
  have hu:=hu_of hr
  have hu0:=hr.units0
  refine ⟨_,%[(@ps_asg _ _ _ _ _ _ %[B_Lstart.ok,s!"h",rfl,B_Lstart.m,B_Lstart.kp,B_Lstart.b,.nil,pass0,%[s!"0",s!"n",s!"g"|0],s!"d",s!"g",rfl|1] (@pg_tup _ _ _ _ _ _ rfl (@pgs_cons _ _ _ _ _ (@pg_name _ _ (1) _ sclaw.nd rfl (Or.inr rfl) s!"f") (@pgs_cons _ _ _ _ _ (@pg_name _ _ (2) _ sclaw.nd rfl (Or.inl rfl) s!"f") (@pgs_nil _) s!"g") s!"g") (by rfl) (by rfl)) s!"g" s!"g" s!"g"),%[(@ps_for _ _ _ _ _ _ _ _ PassesOwn.never rfl (@pi_range1 _ _ _ _ _ _ rfl Z.range %[%[op_mod,%[B_Lmix.ok,s!"h",rfl,B_Lmix.m,B_Lmix.kp,B_Lmix.b,.nil,pass0,%[s!"0",%[s!"i",s!"n",s!"g"|0],s!"g"|0],s!"d",s!"g",rfl|1],s!"i"|3],s!"n",s!"g"|0] s!"g") (@pg_name _ _ (3) _ sclaw.nd rfl (Or.inl rfl) s!"f") %[(@ps_asg _ _ _ _ _ _ %[B_Ldeed.ok,s!"h",rfl,B_Ldeed.m,B_Ldeed.kp,B_Ldeed.b,.nil,pass0,%[s!"0",%[%[op_add,s!"i",s!"3"|3],s!"n",s!"g"|0],s!"g"|0],s!"d",s!"g",rfl|1] (@pg_tup _ _ _ _ _ _ rfl (@pgs_cons _ _ _ _ _ (@pg_name _ _ (4) _ sclaw.nd rfl (Or.inl rfl) s!"f") (@pgs_cons _ _ _ _ _ (@pg_name _ _ (5) _ sclaw.nd rfl (Or.inl rfl) s!"f") (@pgs_cons _ _ _ _ _ (@pg_name _ _ (6) _ sclaw.nd rfl (Or.inl rfl) s!"f") (@pgs_nil _) s!"g") s!"g") s!"g") (by rfl) (by rfl)) s!"g" s!"g" s!"g"),%[%[%[B_Lasked.ok,s!"h",rfl,B_Lasked.m,B_Lasked.kp,B_Lasked.b,.nil,pass0,%[s!"1",%[s!"4",%[s!"5",%[s!"6",s!"n",s!"g"|0],s!"g"|0],s!"g"|0],s!"g"|0],s!"d",s!"g",rfl|1],s!"g"|18],%[%[%[B_Ldone.ok,s!"h",rfl,B_Ldone.m,B_Ldone.kp,B_Ldone.b,.nil,pass0,%[s!"2",%[s!"4",%[s!"5",%[s!"6",s!"n",s!"g"|0],s!"g"|0],s!"g"|0],s!"g"|0],s!"d",s!"g",rfl|1],s!"g"|18]|4]|2]|2] s!"g"),%[%[(7),_,_,_,_,sclaw.nd,rfl,(Or.inl rfl),%[B_saved.ok,s!"h",rfl,B_saved.m,B_saved.kp,B_saved.b,.nil,pass0,%[s!"1",s!"n",s!"g"|0],s!"d",s!"g",rfl|1],s!"g",s!"f"|12],%[%[(PW.pt %[(@pt_not _ _ _ _ (@pt_val _ _ _ %[call_isT,rfl,Z.isinstance,s!"k",%[s!"7",%[(@pe_bltn _ _ (.ty "list") _ _ rfl Z.list s!"k" rfl s!"d" s!"d"),s!"n",s!"g"|0],s!"g"|0],s!"d",s!"d",s!"g",rfl|6] s!"g")),(@pw_or1 _ _ _ _ %[(op_ne_list hu0),s!"7",%[B_Llines.ok,s!"h",rfl,B_Llines.m,B_Llines.kp,B_Llines.b,.nil,pass0,%[s!"2",s!"n",s!"g"|0],s!"d",s!"g",rfl|1],(nomark _)|9])|21]),%[%[(@pe_bl _ _ _ _)|11]|4],s!"z"|10],%[%[(8),_,_,_,_,sclaw.nd,rfl,(Or.inl rfl),%[B_Lsetting.ok,s!"h",rfl,B_Lsetting.m,B_Lsetting.kp,B_Lsetting.b,.nil,pass0,%[s!"0",%[s!"i",s!"n",s!"g"|0],s!"g"|0],s!"d",s!"g",rfl|1],s!"g",s!"f"|12],%[%[(9),_,_,_,_,sclaw.nd,rfl,(Or.inl rfl),(@pe_make _ _ _ _ _ _ _ _ _ _ _ _ _ _ _ _ _ B_Day.mkk B_Day.ok s!"h" rfl B_Day.m B_Day.b .nil passF %[%[ix_tup,%[W_day,hu,s!"2"|7],s!"i",(fun _ _=>rfl)|8],%[%[ix_tup,%[W_day,hu,s!"2"|7],s!"i",(fun _ _=>rfl)|8],s!"n",s!"g"|0],s!"g"|0] s!"d" s!"g" rfl),s!"g",s!"f"|12],%[%[(10),_,_,_,_,sclaw.nd,rfl,(Or.inl rfl),%[B_loaded.ok,s!"h",rfl,B_loaded.m,B_loaded.kp,B_loaded.b,.nil,pass0,%[%[call_list_of,rfl,Z.list,s!"k",%[s!"7",s!"n",s!"g"|0],s!"d",s!"d",s!"g",rfl|16],%[s!"9",%[%[call_list_of,rfl,Z.list,s!"k",%[%[W_rules,hu,s!"2"|7],s!"n",s!"g"|0],s!"d",s!"d",s!"g",rfl|16],%[%[ix_tup,s!"8",s!"i",(fun _ _=>rfl)|8],%[%[ix_tup,s!"8",s!"i",(fun _ _=>rfl)|8],%[%[ix_tup,s!"8",s!"i",(fun _ _=>rfl)|8],s!"n",s!"g"|0],s!"g"|0],s!"g"|0],s!"g"|0],s!"g"|0],s!"g"|0],s!"d",s!"g",rfl|1],s!"g",s!"f"|12],%[(@ps_for _ _ _ _ _ _ _ _ PassesOwn.never rfl (@pi_range1 _ _ _ _ _ _ rfl Z.range %[%[op_mod,%[B_Lmix.ok,s!"h",rfl,B_Lmix.m,B_Lmix.kp,B_Lmix.b,.nil,pass0,%[s!"0",%[s!"i",s!"n",s!"g"|0],s!"g"|0],s!"d",s!"g",rfl|1],s!"i"|3],s!"n",s!"g"|0] s!"g") (@pg_name _ _ (3) _ sclaw.nd rfl (Or.inl rfl) s!"f") %[(@ps_asg _ _ _ _ _ _ %[B_Ldeed.ok,s!"h",rfl,B_Ldeed.m,B_Ldeed.kp,B_Ldeed.b,.nil,pass0,%[s!"0",%[%[op_add,s!"i",s!"3"|3],s!"n",s!"g"|0],s!"g"|0],s!"d",s!"g",rfl|1] (@pg_tup _ _ _ _ _ _ rfl (@pgs_cons _ _ _ _ _ (@pg_name _ _ (4) _ sclaw.nd rfl (Or.inl rfl) s!"f") (@pgs_cons _ _ _ _ _ (@pg_name _ _ (5) _ sclaw.nd rfl (Or.inl rfl) s!"f") (@pgs_cons _ _ _ _ _ (@pg_name _ _ (6) _ sclaw.nd rfl (Or.inl rfl) s!"f") (@pgs_nil _) s!"g") s!"g") s!"g") (by rfl) (by rfl)) s!"g" s!"g" s!"g"),%[%[(11),_,_,_,_,sclaw.nd,rfl,(Or.inl rfl),%[B_ahead.ok,s!"h",rfl,B_ahead.m,B_ahead.kp,B_ahead.b,.nil,pass0,%[s!"1",%[%[op_mod,%[B_Lmix.ok,s!"h",rfl,B_Lmix.m,B_Lmix.kp,B_Lmix.b,.nil,pass0,%[s!"0",%[s!"i",s!"n",s!"g"|0],s!"g"|0],s!"d",s!"g",rfl|1],s!"i"|3],s!"n",s!"g"|0],s!"g"|0],s!"d",s!"g",rfl|1],s!"g",s!"f"|12],%[(@ps_cut _ _ _ %[(PW.pt (@pw_and _ _ _ _ _ _ _ %[op_eq,s!"4",s!"s",(nomark _)|9] (@pw_and1 _ _ _ _ (@pt_truth _ _ _ s!"11" (fun _=>rfl))))),%[%[(PW.pt %[(@pt_not _ _ _ _ (@pt_val _ _ _ %[B_Lwhole.ok,s!"h",rfl,B_Lwhole.m,B_Lwhole.kp,B_Lwhole.b,.nil,pass0,%[%[ix_list,s!"11",s!"i",(fun _ _=>rfl)|8],s!"n",s!"g"|0],s!"d",s!"g",rfl|1] s!"g")),%[%[op_ne,%[ix_list,s!"11",s!"i",(fun _ _=>rfl)|8],%[B_tick.ok,s!"h",rfl,B_tick.m,B_tick.kp,B_tick.b,.nil,pass0,%[s!"1",s!"n",s!"g"|0],s!"d",s!"g",rfl|1],(nomark _)|9],(@pw_or1 _ _ _ _ (@pt_not _ _ _ _ (@pt_val _ _ _ %[B_Lis.ok,s!"h",rfl,B_Lis.m,B_Lis.kp,B_Lis.b,.nil,pass0,%[%[B_tick.ok,s!"h",rfl,B_tick.m,B_tick.kp,B_tick.b,.nil,pass0,%[s!"10",s!"n",s!"g"|0],s!"d",s!"g",rfl|1],%[%[B_Ltick.ok,s!"h",rfl,B_Ltick.m,B_Ltick.kp,B_Ltick.b,.nil,pass0,%[s!"2",s!"n",s!"g"|0],s!"d",s!"g",rfl|1],s!"n",s!"g"|0],s!"g"|0],s!"d",s!"g",rfl|1] s!"g")))|21]|21]),%[%[(@pe_bl _ _ _ _)|11]|4],s!"z"|10]|4],%[%[(@pt_not _ _ _ _ (@pt_val _ _ _ %[B_Lis.ok,s!"h",rfl,B_Lis.m,B_Lis.kp,B_Lis.b,.nil,pass0,%[%[B_Lasked.ok,s!"h",rfl,B_Lasked.m,B_Lasked.kp,B_Lasked.b,.nil,pass0,%[s!"1",%[s!"4",%[s!"5",%[s!"6",s!"n",s!"g"|0],s!"g"|0],s!"g"|0],s!"g"|0],s!"d",s!"g",rfl|1],%[%[B_Ldone.ok,s!"h",rfl,B_Ldone.m,B_Ldone.kp,B_Ldone.b,.nil,pass0,%[s!"2",%[s!"4",%[s!"5",%[s!"6",s!"n",s!"g"|0],s!"g"|0],s!"g"|0],s!"g"|0],s!"d",s!"g",rfl|1],s!"n",s!"g"|0],s!"g"|0],s!"d",s!"g",rfl|1] s!"g")),%[%[(@pe_bl _ _ _ _)|11]|4],%[%[%[B_Lasked.ok,s!"h",rfl,B_Lasked.m,B_Lasked.kp,B_Lasked.b,.nil,pass0,%[s!"10",%[s!"4",%[s!"5",%[s!"6",s!"n",s!"g"|0],s!"g"|0],s!"g"|0],s!"g"|0],s!"d",s!"g",rfl|1],s!"g"|18]|4]|10]|4]|10]),%[%[(PW.pt %[(@pt_not _ _ _ _ (@pt_val _ _ _ %[B_Lsame.ok,s!"h",rfl,B_Lsame.m,B_Lsame.kp,B_Lsame.b,.nil,pass0,%[s!"1",%[s!"2",s!"n",s!"g"|0],s!"g"|0],s!"d",s!"g",rfl|1] s!"g")),%[(@pt_not _ _ _ _ (@pt_val _ _ _ %[B_Lsame.ok,s!"h",rfl,B_Lsame.m,B_Lsame.kp,B_Lsame.b,.nil,pass0,%[s!"10",%[s!"2",s!"n",s!"g"|0],s!"g"|0],s!"d",s!"g",rfl|1] s!"g")),(@pw_or1 _ _ _ _ %[(op_ne_list hu0),%[B_saved.ok,s!"h",rfl,B_saved.m,B_saved.kp,B_saved.b,.nil,pass0,%[s!"10",s!"n",s!"g"|0],s!"d",s!"g",rfl|1],%[B_saved.ok,s!"h",rfl,B_saved.m,B_saved.kp,B_saved.b,.nil,pass0,%[s!"1",s!"n",s!"g"|0],s!"d",s!"g",rfl|1],(nomark _)|9])|21]|21]),%[%[(@pe_bl _ _ _ _)|11]|4],s!"z"|10]|4]|2]|2]|2] s!"g"),%[%[(6),_,_,_,_,sclaw.nd,rfl,(Or.inl rfl),%[op_mod,%[B_Lmix.ok,s!"h",rfl,B_Lmix.m,B_Lmix.kp,B_Lmix.b,.nil,pass0,%[s!"0",%[s!"i",s!"n",s!"g"|0],s!"g"|0],s!"d",s!"g",rfl|1],s!"i"|3],s!"g",s!"f"|12],%[%[(12),_,_,_,_,sclaw.nd,rfl,(Or.inl rfl),%[B_ahead.ok,s!"h",rfl,B_ahead.m,B_ahead.kp,B_ahead.b,.nil,pass0,%[s!"10",%[s!"6",s!"n",s!"g"|0],s!"g"|0],s!"d",s!"g",rfl|1],s!"g",s!"f"|12],%[%[(@pe_and _ _ _ _ _ _ _ %[call_isT,rfl,Z.isinstance,s!"k",%[s!"12",%[(@pe_bltn _ _ (.ty "list") _ _ rfl Z.list s!"k" rfl s!"d" s!"d"),s!"n",s!"g"|0],s!"g"|0],s!"d",s!"d",s!"g",rfl|6] (@pe_and _ _ _ _ _ _ _ (@pe_cmpR _ _ _ _ _ _ _ _ (op_eq_list hu0) s!"12" %[(defScope s_law),_,(["_law_script", "_law_pump", "_law_world", "_law_k", "_law_word", "_law_back", "_law_many", "_law_lines_here", "_law_setting_here", "_law_day_here", "_law_other", "_law_told", "_law_due_here"]),(["_law_script", "_law_pump", "_law_world", "", "_law_word", "_law_back", "_law_many", "_law_lines_here", "_law_setting_here", "_law_day_here", "_law_other", "_law_told", "_law_due_here", "_law_k"]),(["_law_k"]),_,_,_,_,_,rfl,rfl,rfl,(.of s!"k"),(@pi_range1 _ _ _ _ _ _ rfl Z.range %[s!"6",s!"n",s!"g"|0] s!"g"),takes_name,(fun _ _ _ _ _=>@pg_name _ _ (13) _ (show List.Nodup (["_law_script", "_law_pump", "_law_world", "", "_law_word", "_law_back", "_law_many", "_law_lines_here", "_law_setting_here", "_law_day_here", "_law_other", "_law_told", "_law_due_here", "_law_k"]:List Str) by decide +kernel) rfl (Or.inl rfl) s!"f"),(fun _ _ _ _ _=>@pif_nil _),(fun _ _ _ _ _=>%[B_tick.ok,s!"h",rfl,B_tick.m,B_tick.kp,B_tick.b,.nil,pass0,%[s!"1",s!"n",s!"g"|0],s!"d",s!"g",rfl|1]),s!"g"|22] (nomark _)) (@pe_one _ _ _ _ _ %[B_Lsame.ok,s!"h",rfl,B_Lsame.m,B_Lsame.kp,B_Lsame.b,.nil,pass0,%[s!"10",%[s!"2",s!"n",s!"g"|0],s!"g"|0],s!"d",s!"g",rfl|1])))|11]|4]|2]|2]|2]|2]|2]|2]|2]|2]|2]|2],?_⟩
  dsimp only [cxOf,Cx.nox]
  walk_at "rd"
  intro tp p dx dy rl sn wd dt dl wrl wsn0 ds rs g b0 H1 sH1 ntp htp og elk F4 T0
  have hS1:=sH1.seq hS
  have b1:=mixv_nn ns 0
  walk_at "rd"
  clear hS1
  refine for_rangeZ (fun i σ H3=>Hid (∃ v3 v4 v5 v6 wsn s w,σ = [some (.ref a),some (.ref p),some (.ref wd),v3,v4,v5,v6,none,none,none,none,none,none]∧Same H H3∧H wsn=none∧Two K CP CD H3 p dx dy rl sn wd dt dl wrl wsn ds rs g s w∧Sd.Ok g.c s∧Sd.Rel g.c s w∧w.sent.length≤i∧Bk g s i)) ?_ ?_ ?_
  · exact Hid.mk ⟨none,none,none,none,wsn0,s1 b0,s1 b0,rfl,sH1,F4.ws,T0,ok_s1 og b0,rel_s1 b0,by cases b0 <;> exact Nat.le_refl _,bk_s1 b0⟩
  · rintro i σ H3 hi h3 Rt Zb
    obtain ⟨v3,v4,v5,v6,wsn,s,w,rfl,s3,nws,T,ok,R,hwl,bk⟩:=h3.out
    clear h3
    have hS3:=s3.seq hS
    have hi41:i < 21:=by omega
    walk_at "rd"
    intro t d back m H4 s4 nt ht hb hm
    have T4:=T.same s4
    walk_at "rd"
    refine ⟨p,dx,dy,rl,sn,rs,g,s,d,back,m,rfl,T4.pa,og,ok,hb,hm,fun H5 b5 PA5=>?_⟩
    have T5:=T4.pump b5 PA5
    have sH5:=same_but (s3.trans s4) b5 F4.p F4.sn
    obtain ⟨ean,R'⟩:=R.deed og.good.win og.lk.1 d back m
    have ok':=ok.deed og.good d back m
    have bk':=bk.deed og ok d back m hm
    have hn0:0≤w.now:=by rw [← R.now];exact ok.now
    have hwl':=wdeed_len (c:=g.c) (s:=w) (d:=d) (b:=back) (m:=m)
    walk_at "rd"
    refine ⟨wd,dt,dl,wrl,wsn,ds,rs,g,w,d,back,m,rfl,T5.wa,og,hn0,by omega,fun wsn' H6 b6 hs6 W6=>?_⟩
    have T6:=T5.done b6 hs6 W6
    have sH6:=same_but sH5 b6 F4.wd nws
    have nws':H wsn'=none:=by
      rcases hs6 with e | e
      · rw [e];exact nws
      · exact sH5.free e
    walk_at "rd"
    exact Hid.mk ⟨_,_,_,_,wsn',_,_,rfl,sH6,nws',T6,ok',R',by omega,bk'⟩
  · rintro σ H3 h3
    obtain ⟨v3,v4,v5,v6,wsn,s,w,rfl,s3,nws,T,ok,R,hwl,bk⟩:=h3.out
    clear h3
    have hk20:(mixv ns 0 % 21).toNat≤20:=by omega
    have sm:=bk.small og ok (by omega)
    walk_at "rd"
    refine ⟨p,dx,dy,rl,sn,rs,g,s,rfl,T.pa,sm,fun ll H4 s4 nll hll=>?_⟩
    have T4:=T.same s4
    walk_at "rd"
    refine ⟨_,_,_,true,rfl,.lst hll,by first | rfl | decide +kernel,?_⟩
    walk_at "rd"
    refine ⟨wd,dt,dl,wrl,wsn,ds,rs,g,s,w,rfl,T4.wa,og,R,sm,by omega,fun l2 H5 s5 nl2 hl2=>?_⟩
    have T5:=T4.same s5
    have hll5:=s5 _ _ hll
    refine ⟨ll,l2,_,_,rfl,rfl,SqL.of hll5,SqL.of hl2,(self_str _).1,?_⟩
    rw [(self_str _).2]
    have sH5:=(s3.trans s4).trans s5
    have hS5:=sH5.seq hS
    walk_at "rd"
    intro st H6 s6 nst hst c1 c2 c3
    rw [← elk.1] at hst c1
    rw [← elk.2.1] at hst c2
    rw [← elk.2.2] at hst c3
    have T6:=T5.same s6
    have hll6:=s6 _ _ hll5
    have sH6:=sH5.trans s6
    have hw6:=T6.wa.ob
    have dw:=T6.wa.dw
    have htp6:=dw.tp
    walk_at "rd"
    walk_at "rd"
    intro dyh ddh ndy nddy nedy
    have s7:Same H6 (upd (upd H6 ddh (.own dyh)) dyh (.ins CD ddh [])):=fun c o ec=>by
      rw [upd_ne (ne_of_none ec ndy),upd_ne (ne_of_none ec nddy)]
      exact ec
    have ot1:=og.d.t1
    have ot2:=og.d.t2
    have dle:=dw.le
    refine ⟨dyh,ddh,g.ticks,dl,ds,g.ps,rfl,upd_same,s7 _ _ dw.ls,dw.ts.same s7,(by unfold Bd;omega),bdp_ok og.d,by omega,fun _ H7 kp D=>?_,fun no=>absurd og.d no⟩
    have s67:Same H6 H7:=fun c o ec=>kp c o (ne_of_none ec ndy) (s7 c o ec)
    have T7:=T6.same s67
    have hst7:=st_at (K:=K) (s67 _ _ hst)
    have hll7:=s67 _ _ hll6
    have sH7:=sH6.trans s67
    walk_at "rd"
    intro lc nlc
    have s8:=Same.new nlc (.lst ((lines9 s).map V.str))
    have hlc:(upd H7 lc (.lst ((lines9 s).map V.str))) lc=some (.lst ((lines9 s).map V.str)):=upd_same
    have T8:=T7.same s8
    have D8:=D.same s8
    have hst8:=s8.tup hst7
    have sH8:=sH7.trans s8
    generalize upd H7 lc (.lst ((lines9 s).map V.str))=H8 at s8 hlc T8 D8 hst8 sH8 ⊢
    have hw8:=T8.wa.ob
    have hrl8:=T8.wa.rls
    walk_at "rd"
    intro lr nlr
    have s9:=Same.new nlr (.lst (rs.map V.ref))
    have hlr:(upd H8 lr (.lst (rs.map V.ref))) lr=some (.lst (rs.map V.ref)):=upd_same
    have T9:=T8.same s9
    have D9:=D8.same s9
    have hst9:=s9.tup hst8
    have hlc9:=s9 _ _ hlc
    have sH9:=sH8.trans s9
    generalize upd H8 lr (.lst (rs.map V.ref))=H9 at s9 hlr T9 D9 hst9 hlc9 sH9 ⊢
    have a0:atI [V.int g.lock,V.int g.dose,V.int g.hold] 0=some (.int g.lock):=rfl
    have a1:atI [V.int g.lock,V.int g.dose,V.int g.hold] 1=some (.int g.dose):=rfl
    have a2:atI [V.int g.lock,V.int g.dose,V.int g.hold] 2=some (.int g.hold):=rfl
    walk_at "rd"
    refine ⟨lc,dyh,lr,rs,g,s,rfl,hlc9,sm,D9,hlr,T9.wa.rt,og,ok.len,fun p2 dx2 rl2 sn2 H10 s10 np2 nrl2 nsn2 PA2=>?_⟩
    have T10:=T9.same s10
    have npdy:p ≠ dyh:=ne_of_none T6.pa.ob ndy
    obtain ⟨dxq,ptq,smq,rsq,hyq,_,_⟩:=id T9.pa.day.ex
    have sH10:=sH9.trans s10
    have I0:Three K CP CD H H10 p dx dy rl sn p2 dx2 dyh rl2 sn2 wd dt dl wrl wsn ds rs g s s w:=⟨T10,⟨PA2,T10.wa,⟨(ne_of_none T9.wa.dw.ls nsn2).symm,(ne_of_none T9.wa.rls nsn2).symm,(ne_of_none T9.wa.se nsn2).symm,(ne_of_none T9.wa.se nrl2).symm⟩⟩,ne_of_none T9.pa.ob np2,npdy,(ne_of_none hyq np2).symm,ne_of_none T9.pa.se nsn2,ne_of_none T9.pa.se nrl2,(ne_of_none T9.pa.rls nsn2).symm,⟨F4.p,F4.sn,F4.wd,nws⟩,sH9.free np2,sH9.free nsn2,sH10⟩
    have hS10:=sH10.seq hS
    have b2:=mixv_nn ns 60
    walk_at "rd"
    refine for_rangeZ (fun i σ H3=>Hid (∃ v3 v4 v5 v6 v11 wsn s w,σ = [some (.ref a),some (.ref p),some (.ref wd),v3,v4,v5,v6,some (.ref ll),some (.ref st),some (.ref dyh),some (.ref p2),v11,none]∧Three K CP CD H H3 p dx dy rl sn p2 dx2 dyh rl2 sn2 wd dt dl wrl wsn ds rs g s s w∧Sd.Ok g.c s∧Sd.Rel g.c s w∧w.sent.length≤20 + i∧Bk g s (20 + i))) ?_ ?_ ?_
    · obtain ⟨out,fl,wa,q1,q2,q3,q4⟩:=bk
      exact Hid.mk ⟨_,_,_,_,_,wsn,s,w,rfl,I0,ok,R,by omega,out,fl,wa,q1,by omega,by omega,by omega⟩
    · clear I0 T10 PA2 T9 D9 T8 D8 T7 D T6 T5 T4 T R ok bk sm hwl hst hst9 hst8 hst7 hll hll5 hll6 hll7 hlc hlc9 hlr hw6 hw8 hrl8 hyq hl2 s10 s9 s8 s67 s7 s6 s5 s4 dw htp6 hS10 sH5 hS5 sH6 sH7 sH8 sH9 sH10 kp
      rintro i σ H11 hi h11 Rt Zb
      obtain ⟨u3,u4,u5,u6,u11,ws,s,w,rfl,I,ok,R,hwl,bk⟩:=h11.out
      clear h11
      have hi13:i < 13:=by omega
      have hS11:=I.sm.seq hS
      walk_at "rd"
      intro t d back m H12 s12 nt ht hb hm
      have I12:=I.same s12
      have hS12:=I12.sm.seq hS
      have b3:=mixv_nn ns 61
      obtain ⟨n,en⟩:∃ n,n=mixv ns 61 % 5:=⟨_,rfl⟩
      have hn:0≤n∧n < 5:=by rw [en];omega
      walk_at "rd"
      refine ⟨p,dx,dy,rl,sn,rs,g,s,mixv ns 61 % 5,rfl,I12.t.pa,og,ok,by omega,by omega,fun lt H13 s13 nlt hlt=>?_⟩
      rw [← en] at hlt
      have I13:=I12.same s13
      obtain ⟨ean,R'⟩:=R.deed og.good.win og.lk.1 d back m
      have ok':=ok.deed og.good d back m
      have bk':=bk.deed og ok d back m hm
      have hn0:0≤w.now:=by rw [← R.now];exact ok.now
      have hwl':=wdeed_len (c:=g.c) (s:=w) (d:=d) (b:=back) (m:=m)
      have sm':=bk'.small og ok' (by omega)
      walk_at "rd"
      refine ⟨fun σ' H'=>Hid (∃ ws',σ' = [some (.ref a),some (.ref p),some (.ref wd),some (.int (0 + i)),some (.str (wdS d)),some (.int back),some (.int m),some (.ref ll),some (.ref st),some (.ref dyh),some (.ref p2),some (.ref lt),none]∧Three K CP CD H H' p dx dy rl sn p2 dx2 dyh rl2 sn2 wd dt dl wrl ws' ds rs g (Sd.deed g.c s d back m).2 (Sd.deed g.c s d back m).2 (Sd.wdeed g.c w d back m).2),?_,?_⟩
      · by_cases hc:d = .tick∧n ≠ 0
        · obtain ⟨rfl,hn1⟩:=hc
          obtain ⟨r,er⟩:=told_head (c:=g.c) (s:=s) (n.toNat - 1)
          rw [show n.toNat - 1 + 1=n.toNat by omega] at er
          rw [er] at hlt
          have hlt:H13 lt=some (.lst (V.int (Sd.many g.c s) :: r.map V.int)):=hlt
          have at0:atI (V.int (Sd.many g.c s) :: r.map V.int) 0=some (.int (Sd.many g.c s)):=at_zero
          have hnn:=Sd.many_nn og.good ok
          walk_at "rd"
          refine ⟨true,.inl ⟨_,SqL.of hlt,rfl⟩,?_⟩
          walk_at "rd"
          refine ⟨p,dx,dy,rl,sn,rs,g,s,rfl,I13.t.pa,og,ok,fun H14 b14 PA14=>?_⟩
          have I14:=I13.one b14 PA14
          walk_at "rd"
          refine ⟨p2,dx2,dyh,rl2,sn2,rs,g,s,rfl,I14.t2.pa,og,ok,fun H15 b15 PA15=>?_⟩
          have I15:=I14.two b15 PA15
          walk_at "rd"
          refine ⟨wd,dt,dl,wrl,ws,ds,rs,g,w,rfl,I15.t.wa,og,hn0,by omega,fun ws' H16 b16 hs16 W16=>?_⟩
          have I16:=I15.done b16 hs16 W16
          rw [← R.many og.good.win]
          refine ⟨_,rfl,True.intro,?_⟩
          walk_at "rd"
          exact Hid.mk ⟨ws',rfl,I16⟩
        · by_cases hd:d = .tick
          · subst hd
            have hn1:n=0:=Classical.byContradiction fun z=>hc ⟨rfl,z⟩
            subst hn1
            have hlt:H13 lt=some (.lst []):=hlt
            walk_at "rd"
            refine ⟨false,.inl ⟨_,SqL.of hlt,rfl⟩,?_⟩
            walk_at "rd"
            refine ⟨p,dx,dy,rl,sn,rs,g,s,.tick,back,m,rfl,I13.t.pa,og,ok,hb,hm,fun H14 b14 PA14=>?_⟩
            have I14:=I13.one b14 PA14
            walk_at "rd"
            refine ⟨wd,dt,dl,wrl,ws,ds,rs,g,w,.tick,back,m,rfl,I14.t.wa,og,hn0,by omega,fun ws' H15 b15 hs15 W15=>?_⟩
            have I15:=I14.done b15 hs15 W15
            rw [← ean]
            refine ⟨_,rfl,plain_an _,?_⟩
            walk_at "rd"
            refine ⟨p2,dx2,dyh,rl2,sn2,rs,g,s,.tick,back,m,rfl,I15.t2.pa,og,ok,hb,hm,fun H16 b16 PA16=>?_⟩
            have I16:=I15.two b16 PA16
            walk_at "rd"
            exact Hid.mk ⟨ws',rfl,I16⟩
          · have hw':=wd_ne (x := "tick") hd rfl
            walk_at "rd"
            rw [hw']
            walk_at "rd"
            refine ⟨p,dx,dy,rl,sn,rs,g,s,d,back,m,rfl,I13.t.pa,og,ok,hb,hm,fun H14 b14 PA14=>?_⟩
            have I14:=I13.one b14 PA14
            walk_at "rd"
            refine ⟨wd,dt,dl,wrl,ws,ds,rs,g,w,d,back,m,rfl,I14.t.wa,og,hn0,by omega,fun ws' H15 b15 hs15 W15=>?_⟩
            have I15:=I14.done b15 hs15 W15
            rw [← ean]
            refine ⟨_,rfl,plain_an _,?_⟩
            walk_at "rd"
            refine ⟨p2,dx2,dyh,rl2,sn2,rs,g,s,d,back,m,rfl,I15.t2.pa,og,ok,hb,hm,fun H16 b16 PA16=>?_⟩
            have I16:=I15.two b16 PA16
            walk_at "rd"
            exact Hid.mk ⟨ws',rfl,I16⟩
      intro σ' H' h'
      obtain ⟨ws',rfl,I14⟩:=h'.out
      clear h'
      walk_at "rd"
      refine ⟨p,dx,dy,rl,sn,wd,dt,dl,wrl,ws',ds,rs,g,_,_,rfl,I14.t,R',og,ok',fun H15 s15=>?_⟩
      have I15:=I14.same s15
      walk_at "rd"
      refine ⟨p2,dx2,dyh,rl2,sn2,wd,dt,dl,wrl,ws',ds,rs,g,_,_,rfl,I15.t2,R',og,ok',fun H16 s16=>?_⟩
      have I16:=I15.same s16
      walk_at "rd"
      refine ⟨p2,dx2,dyh,rl2,sn2,rs,g,_,rfl,I16.t2.pa,sm',fun l1 H17 s17 nl1 hl1=>?_⟩
      have I17:=I16.same s17
      walk_at "rd"
      refine ⟨p,dx,dy,rl,sn,rs,g,_,rfl,I17.t.pa,sm',fun l2 H18 s18 nl2 hl2=>?_⟩
      have I18:=I17.same s18
      refine ⟨l1,l2,_,_,rfl,rfl,SqL.of (s18 _ _ hl1),SqL.of hl2,(self_str _).1,?_⟩
      rw [(self_str _).2]
      walk_at "rd"
      exact Hid.mk ⟨_,_,_,_,_,ws',_,_,rfl,I18,ok',R',by omega,bk'⟩
    · rintro σ H11 h11
      obtain ⟨u3,u4,u5,u6,u11,ws,s,w,rfl,I,ok,R,hwl,bk⟩:=h11.out
      clear h11
      have hS11:=I.sm.seq hS
      have b3:=mixv_nn ns 62
      walk_at "rd"
      refine ⟨p2,dx2,dyh,rl2,sn2,rs,g,s,mixv ns 62 % 9,rfl,I.t2.pa,og,ok,by omega,by omega,fun lt H12 s12 nlt hlt=>?_⟩
      have I12:=I.same s12
      obtain ⟨n,en⟩:∃ n,n=mixv ns 62 % 9:=⟨_,rfl⟩
      have hn:0≤n∧n < 9:=by rw [en];omega
      rw [← en] at hlt
      walk_at "rd"
      refine ⟨_,_,_,true,rfl,.lst hlt,by first | rfl | decide +kernel,?_⟩
      walk_at "rd"
      intro acc n0
      have f0:=I12.sm.free n0
      have x1:acc ≠ sn:=(ne_of_none I12.t.pa.se n0).symm
      have x2:acc ≠ p:=(ne_of_none I12.t.pa.ob n0).symm
      have y1:lt ≠ sn:=(ne_of_none I.t.pa.se nlt).symm
      have y2:lt ≠ p:=(ne_of_none I.t.pa.ob nlt).symm
      have y3:lt ≠ acc:=ne_of_none hlt n0
      have z1:acc ≠ rl:=(ne_of_none I12.t.pa.rls n0).symm
      have z2:acc ≠ dl:=(ne_of_none I12.t.wa.dw.ls n0).symm
      have z3:acc ≠ wrl:=(ne_of_none I12.t.wa.rls n0).symm
      have z4:acc ≠ ws:=(ne_of_none I12.t.wa.se n0).symm
      have z5:acc ≠ rl2:=(ne_of_none I12.t2.pa.rls n0).symm
      have z6:acc ≠ sn2:=(ne_of_none I12.t2.pa.se n0).symm
      refine comp_range (fun i ys H13=>ys=(told g.c s i).map V.int∧Three K CP CD H H13 p dx dy rl sn p2 dx2 dyh rl2 sn2 wd dt dl wrl ws ds rs g (tickN g.c i s) s w∧H13 acc=some (.lst ys)∧H13 lt=some (.lst ((told g.c s n.toNat).map V.int))) ?_ ?_ ?_
      · have s0:=Same.new n0 (.lst [])
        exact ⟨rfl,I12.same s0,upd_same,s0 _ _ hlt⟩
      · rintro i ys H13 hi ⟨rfl,I13,hac,hlt13⟩
        walk_at "rd"
        refine ⟨p,dx,dy,rl,sn,rs,g,_,rfl,I13.t.pa,og,tickN_ok og ok i,fun H14 b14 PA14=>?_⟩
        have I14:=I13.one b14 PA14
        have hac14:=b14 _ _ x2 x1 hac
        have hlt14:=b14 _ _ y2 y1 hlt13
        have hsz:((told g.c s i).map V.int).length < sizeLine:=by rw [List.length_map,told_len,sizeLine_eq];omega
        refine ⟨hac14,hsz,cstep hi ⟨?_,I14.put hac14 f0 z1 x1 z2 z3 z4 z5 z6,upd_same,at_ne y3 hlt14⟩⟩
        show _=(told g.c s i ++ [_]).map V.int
        rw [List.map_append]
        rfl
      · rintro ys H13 ⟨rfl,I13,hac,hlt13⟩
        rw [← en] at hac
        refine ⟨lt,acc,_,_,rfl,rfl,SqL.of hlt13,SqL.of hac,(self_int _).1,?_⟩
        rw [(self_int _).2]
        walk_at "rd"
        exact ⟨p2,dx2,dyh,rl2,sn2,wd,dt,dl,wrl,ws,ds,rs,g,s,w,rfl,I13.t2,R,og,ok,fun H14 _=>q _⟩
end
end Sp

set_option Elab.async false
set_option linter.all false
set_option maxRecDepth 100000
set_option maxHeartbeats 4000000
namespace Sp
open PySem L2
theorem cls_some {K:PySem.W.Frag}{C:Addr}{v:Value}{b:Bool} (h:PySem.W.mroIn K C v=some b):(PySem.W.clsIn K C).isSome=true:=by
  unfold PySem.W.mroIn at h
  cases e:PySem.W.clsIn K C with
  | none=>rw [e] at h;cases h
  | some cd=>rfl
theorem under_of {K:PySem.W.Frag}{C D:Addr} (h:PySem.W.mroIn K C (.ref D)=some true):excUnder K C D=true:=by
  unfold PySem.W.mroIn PySem.W.clsIn at h
  unfold excUnder
  split at h
  · rename_i e
    rw [e]
    dsimp only at h ⊢
    rw [Option.bind_some] at h
    split at h
    · cases h
    · exact Option.some.inj h
  · cases h
theorem all_mk {l:PySem.W.OpenLaw}{w:World}{K:PySem.W.Frag}{h:Heap}{mg:Str→Option Value}{fa:Addr} (X:K.In h) (G:h.Ns mainGlobals mg) (hfa:mg "law"=some (.ref fa))
    {C_DoseError:Addr}
    {C_BadSetting:Addr}
    {C_Locked:Addr}
    {C_NotThere:Addr}
    {C_BadSave:Addr}
    {C_Day:Addr}
    {f_Day_init:Addr}{od_Day_init an_Day_init:Option Addr}{sl_Day_init:Array (Option Value)}{oc_Day_init kV_Day_init dc_Day_init pm_Day_init cd_Day_init ct_Day_init:Value}
    {f_Day_due:Addr}{od_Day_due an_Day_due:Option Addr}{sl_Day_due:Array (Option Value)}{oc_Day_due kV_Day_due dc_Day_due pm_Day_due cd_Day_due ct_Day_due:Value}
    {C_Pump:Addr}
    {f_Pump_init:Addr}{od_Pump_init an_Pump_init:Option Addr}{sl_Pump_init:Array (Option Value)}{oc_Pump_init kV_Pump_init dc_Pump_init pm_Pump_init cd_Pump_init ct_Pump_init:Value}
    {f_Pump_time:Addr}{od_Pump_time an_Pump_time:Option Addr}{sl_Pump_time:Array (Option Value)}{oc_Pump_time kV_Pump_time dc_Pump_time pm_Pump_time cd_Pump_time ct_Pump_time:Value}
    {f_Pump_is_running:Addr}{od_Pump_is_running an_Pump_is_running:Option Addr}{sl_Pump_is_running:Array (Option Value)}{oc_Pump_is_running kV_Pump_is_running dc_Pump_is_running pm_Pump_is_running cd_Pump_is_running ct_Pump_is_running:Value}
    {f_Pump_state:Addr}{od_Pump_state an_Pump_state:Option Addr}{sl_Pump_state:Array (Option Value)}{oc_Pump_state kV_Pump_state dc_Pump_state pm_Pump_state cd_Pump_state ct_Pump_state:Value}
    {f_check_between:Addr}{od_check_between an_check_between:Option Addr}{sl_check_between:Array (Option Value)}{oc_check_between kV_check_between dc_check_between pm_check_between cd_check_between ct_check_between:Value}
    {f_drops_by:Addr}{od_drops_by an_drops_by:Option Addr}{sl_drops_by:Array (Option Value)}{oc_drops_by kV_drops_by dc_drops_by pm_drops_by cd_drops_by ct_drops_by:Value}
    {f_drops_at:Addr}{od_drops_at an_drops_at:Option Addr}{sl_drops_at:Array (Option Value)}{oc_drops_at kV_drops_at dc_drops_at pm_drops_at cd_drops_at ct_drops_at:Value}
    {f_check_part:Addr}{od_check_part an_check_part:Option Addr}{sl_check_part:Array (Option Value)}{oc_check_part kV_check_part dc_check_part pm_check_part cd_check_part ct_check_part:Value}
    {f_check_day:Addr}{od_check_day an_check_day:Option Addr}{sl_check_day:Array (Option Value)}{oc_check_day kV_check_day dc_check_day pm_check_day cd_check_day ct_check_day:Value}
    {f_drops_within:Addr}{od_drops_within an_drops_within:Option Addr}{sl_drops_within:Array (Option Value)}{oc_drops_within kV_drops_within dc_drops_within pm_drops_within cd_drops_within ct_drops_within:Value}
    {f_sums_ahead:Addr}{od_sums_ahead an_sums_ahead:Option Addr}{sl_sums_ahead:Array (Option Value)}{oc_sums_ahead kV_sums_ahead dc_sums_ahead pm_sums_ahead cd_sums_ahead ct_sums_ahead:Value}
    {f_place_of_part:Addr}{od_place_of_part an_place_of_part:Option Addr}{sl_place_of_part:Array (Option Value)}{oc_place_of_part kV_place_of_part dc_place_of_part pm_place_of_part cd_place_of_part ct_place_of_part:Value}
    {f_checked_rules:Addr}{od_checked_rules an_checked_rules:Option Addr}{sl_checked_rules:Array (Option Value)}{oc_checked_rules kV_checked_rules dc_checked_rules pm_checked_rules cd_checked_rules ct_checked_rules:Value}
    {f_longest_window:Addr}{od_longest_window an_longest_window:Option Addr}{sl_longest_window:Array (Option Value)}{oc_longest_window kV_longest_window dc_longest_window pm_longest_window cd_longest_window ct_longest_window:Value}
    {f_sum_of_last:Addr}{od_sum_of_last an_sum_of_last:Option Addr}{sl_sum_of_last:Array (Option Value)}{oc_sum_of_last kV_sum_of_last dc_sum_of_last pm_sum_of_last cd_sum_of_last ct_sum_of_last:Value}
    {f_room_left:Addr}{od_room_left an_room_left:Option Addr}{sl_room_left:Array (Option Value)}{oc_room_left kV_room_left dc_room_left pm_room_left cd_room_left ct_room_left:Value}
    {f_room:Addr}{od_room an_room:Option Addr}{sl_room:Array (Option Value)}{oc_room kV_room dc_room pm_room cd_room ct_room:Value}
    {f_send:Addr}{od_send an_send:Option Addr}{sl_send:Array (Option Value)}{oc_send kV_send dc_send pm_send cd_send ct_send:Value}
    {f_miss_above_hold:Addr}{od_miss_above_hold an_miss_above_hold:Option Addr}{sl_miss_above_hold:Array (Option Value)}{oc_miss_above_hold kV_miss_above_hold dc_miss_above_hold pm_miss_above_hold cd_miss_above_hold ct_miss_above_hold:Value}
    {f_tick:Addr}{od_tick an_tick:Option Addr}{sl_tick:Array (Option Value)}{oc_tick kV_tick dc_tick pm_tick cd_tick ct_tick:Value}
    {f_start:Addr}{od_start an_start:Option Addr}{sl_start:Array (Option Value)}{oc_start kV_start dc_start pm_start cd_start ct_start:Value}
    {f_stop:Addr}{od_stop an_stop:Option Addr}{sl_stop:Array (Option Value)}{oc_stop kV_stop dc_stop pm_stop cd_stop ct_stop:Value}
    {f_fill:Addr}{od_fill an_fill:Option Addr}{sl_fill:Array (Option Value)}{oc_fill kV_fill dc_fill pm_fill cd_fill ct_fill:Value}
    {f_press:Addr}{od_press an_press:Option Addr}{sl_press:Array (Option Value)}{oc_press kV_press dc_press pm_press cd_press ct_press:Value}
    {f_report:Addr}{od_report an_report:Option Addr}{sl_report:Array (Option Value)}{oc_report kV_report dc_report pm_report cd_report ct_report:Value}
    {f_Lcell:Addr}{od_Lcell an_Lcell:Option Addr}{sl_Lcell:Array (Option Value)}{oc_Lcell kV_Lcell dc_Lcell pm_Lcell cd_Lcell ct_Lcell:Value}
    {f_Lmix:Addr}{od_Lmix an_Lmix:Option Addr}{sl_Lmix:Array (Option Value)}{oc_Lmix kV_Lmix dc_Lmix pm_Lmix cd_Lmix ct_Lmix:Value}
    {f_Lwhole:Addr}{od_Lwhole an_Lwhole:Option Addr}{sl_Lwhole:Array (Option Value)}{oc_Lwhole kV_Lwhole dc_Lwhole pm_Lwhole cd_Lwhole ct_Lwhole:Value}
    {f_Lday:Addr}{od_Lday an_Lday:Option Addr}{sl_Lday:Array (Option Value)}{oc_Lday kV_Lday dc_Lday pm_Lday cd_Lday ct_Lday:Value}
    {f_Lrules:Addr}{od_Lrules an_Lrules:Option Addr}{sl_Lrules:Array (Option Value)}{oc_Lrules kV_Lrules dc_Lrules pm_Lrules cd_Lrules ct_Lrules:Value}
    {f_Lsetting:Addr}{od_Lsetting an_Lsetting:Option Addr}{sl_Lsetting:Array (Option Value)}{oc_Lsetting kV_Lsetting dc_Lsetting pm_Lsetting cd_Lsetting ct_Lsetting:Value}
    {f_Ldue:Addr}{od_Ldue an_Ldue:Option Addr}{sl_Ldue:Array (Option Value)}{oc_Ldue kV_Ldue dc_Ldue pm_Ldue cd_Ldue ct_Ldue:Value}
    {f_Ldeed:Addr}{od_Ldeed an_Ldeed:Option Addr}{sl_Ldeed:Array (Option Value)}{oc_Ldeed kV_Ldeed dc_Ldeed pm_Ldeed cd_Ldeed ct_Ldeed:Value}
    {f_Lnew:Addr}{od_Lnew an_Lnew:Option Addr}{sl_Lnew:Array (Option Value)}{oc_Lnew kV_Lnew dc_Lnew pm_Lnew cd_Lnew ct_Lnew:Value}
    {f_Lasked:Addr}{od_Lasked an_Lasked:Option Addr}{sl_Lasked:Array (Option Value)}{oc_Lasked kV_Lasked dc_Lasked pm_Lasked cd_Lasked ct_Lasked:Value}
    {f_Lstart:Addr}{od_Lstart an_Lstart:Option Addr}{sl_Lstart:Array (Option Value)}{oc_Lstart kV_Lstart dc_Lstart pm_Lstart cd_Lstart ct_Lstart:Value}
    {f_Lroom:Addr}{od_Lroom an_Lroom:Option Addr}{sl_Lroom:Array (Option Value)}{oc_Lroom kV_Lroom dc_Lroom pm_Lroom cd_Lroom ct_Lroom:Value}
    {f_Ltick:Addr}{od_Ltick an_Ltick:Option Addr}{sl_Ltick:Array (Option Value)}{oc_Ltick kV_Ltick dc_Ltick pm_Ltick cd_Ltick ct_Ltick:Value}
    {f_Lreport:Addr}{od_Lreport an_Lreport:Option Addr}{sl_Lreport:Array (Option Value)}{oc_Lreport kV_Lreport dc_Lreport pm_Lreport cd_Lreport ct_Lreport:Value}
    {f_Ldone:Addr}{od_Ldone an_Ldone:Option Addr}{sl_Ldone:Array (Option Value)}{oc_Ldone kV_Ldone dc_Ldone pm_Ldone cd_Ldone ct_Ldone:Value}
    {f_Lis:Addr}{od_Lis an_Lis:Option Addr}{sl_Lis:Array (Option Value)}{oc_Lis kV_Lis dc_Lis pm_Lis cd_Lis ct_Lis:Value}
    {f_Lsame:Addr}{od_Lsame an_Lsame:Option Addr}{sl_Lsame:Array (Option Value)}{oc_Lsame kV_Lsame dc_Lsame pm_Lsame cd_Lsame ct_Lsame:Value}
    {f_counts:Addr}{od_counts an_counts:Option Addr}{sl_counts:Array (Option Value)}{oc_counts kV_counts dc_counts pm_counts cd_counts ct_counts:Value}
    {f_set_counts:Addr}{od_set_counts an_set_counts:Option Addr}{sl_set_counts:Array (Option Value)}{oc_set_counts kV_set_counts dc_set_counts pm_set_counts cd_set_counts ct_set_counts:Value}
    {f_line_of:Addr}{od_line_of an_line_of:Option Addr}{sl_line_of:Array (Option Value)}{oc_line_of kV_line_of dc_line_of pm_line_of cd_line_of ct_line_of:Value}
    {f_saved:Addr}{od_saved an_saved:Option Addr}{sl_saved:Array (Option Value)}{oc_saved kV_saved dc_saved pm_saved cd_saved ct_saved:Value}
    {f_is_number:Addr}{od_is_number an_is_number:Option Addr}{sl_is_number:Array (Option Value)}{oc_is_number kV_is_number dc_is_number pm_is_number cd_is_number ct_is_number:Value}
    {f_numbers_of:Addr}{od_numbers_of an_numbers_of:Option Addr}{sl_numbers_of:Array (Option Value)}{oc_numbers_of kV_numbers_of dc_numbers_of pm_numbers_of cd_numbers_of ct_numbers_of:Value}
    {f_fits:Addr}{od_fits an_fits:Option Addr}{sl_fits:Array (Option Value)}{oc_fits kV_fits dc_fits pm_fits cd_fits ct_fits:Value}
    {f_rows_of:Addr}{od_rows_of an_rows_of:Option Addr}{sl_rows_of:Array (Option Value)}{oc_rows_of kV_rows_of dc_rows_of pm_rows_of cd_rows_of ct_rows_of:Value}
    {f_loaded:Addr}{od_loaded an_loaded:Option Addr}{sl_loaded:Array (Option Value)}{oc_loaded kV_loaded dc_loaded pm_loaded cd_loaded ct_loaded:Value}
    {f_twin:Addr}{od_twin an_twin:Option Addr}{sl_twin:Array (Option Value)}{oc_twin kV_twin dc_twin pm_twin cd_twin ct_twin:Value}
    {f_ahead:Addr}{od_ahead an_ahead:Option Addr}{sl_ahead:Array (Option Value)}{oc_ahead kV_ahead dc_ahead pm_ahead cd_ahead ct_ahead:Value}
    {f_Llines:Addr}{od_Llines an_Llines:Option Addr}{sl_Llines:Array (Option Value)}{oc_Llines kV_Llines dc_Llines pm_Llines cd_Llines ct_Llines:Value}
    {f_law:Addr}{od_law an_law:Option Addr}{sl_law:Array (Option Value)}{oc_law kV_law dc_law pm_law cd_law ct_law:Value}
    {tk_MOST_DROPS_rates:Tok}
    {tk_MOST_TICKS:Tok}
    {tk_MOST_DROPS_limits:Tok}
    {tk_MOST_RULES:Tok}
    {tk_LONGEST_WINDOW:Tok}
    {tk_MOST:Tok}
    {tk_MOST_FIGURES:Tok}
    {tk_FIGURES:Tok}
    {A_WORDS:Addr}{od_WORDS:Option Addr}{sl_WORDS:Array (Option Value)}{its_WORDS:Array Value}{nn_WORDS:Nat}
    (a_DoseError:PySem.W.nsIn K mainGlobals "DoseError"=some (some (.ref C_DoseError)))
    (a_BadSetting:PySem.W.nsIn K mainGlobals "BadSetting"=some (some (.ref C_BadSetting)))
    (a_Locked:PySem.W.nsIn K mainGlobals "Locked"=some (some (.ref C_Locked)))
    (a_NotThere:PySem.W.nsIn K mainGlobals "NotThere"=some (some (.ref C_NotThere)))
    (a_BadSave:PySem.W.nsIn K mainGlobals "BadSave"=some (some (.ref C_BadSave)))
    (x_BadSetting:PySem.W.excIn K C_BadSetting [.type "ValueError",.type "Exception",.type "BaseException",.type "object"] "ValueError.__new__"=true)
    (t_BadSetting:PySem.W.ktsIn K C_BadSetting "BaseException"=true)
    (u_BadSetting:PySem.W.mroIn K C_BadSetting (.ref C_DoseError)=some true)
    (eg_BadSetting:PySem.W.findIn K (.ref C_BadSetting) "__getattribute__"=some (some (.builtin "BaseException.__getattribute__")))
    (eh_BadSetting:PySem.W.findIn K (.ref C_BadSetting) "__getattr__"=some none)
    (eb_BadSetting:PySem.W.mroIn K C_BadSetting (.type "BaseException")=some true)
    (eo_BadSetting:PySem.W.mroIn K C_BadSetting (.type "object")=some true)
    (ec_BadSetting:PySem.W.findIn K (.ref C_BadSetting) "__class__"=some (some (.builtin "object.__class__")))
    (x_Locked:PySem.W.excIn K C_Locked [.type "ValueError",.type "Exception",.type "BaseException",.type "object"] "ValueError.__new__"=true)
    (t_Locked:PySem.W.ktsIn K C_Locked "BaseException"=true)
    (u_Locked:PySem.W.mroIn K C_Locked (.ref C_DoseError)=some true)
    (eg_Locked:PySem.W.findIn K (.ref C_Locked) "__getattribute__"=some (some (.builtin "BaseException.__getattribute__")))
    (eh_Locked:PySem.W.findIn K (.ref C_Locked) "__getattr__"=some none)
    (eb_Locked:PySem.W.mroIn K C_Locked (.type "BaseException")=some true)
    (eo_Locked:PySem.W.mroIn K C_Locked (.type "object")=some true)
    (ec_Locked:PySem.W.findIn K (.ref C_Locked) "__class__"=some (some (.builtin "object.__class__")))
    (x_NotThere:PySem.W.excIn K C_NotThere [.type "ValueError",.type "Exception",.type "BaseException",.type "object"] "ValueError.__new__"=true)
    (t_NotThere:PySem.W.ktsIn K C_NotThere "BaseException"=true)
    (u_NotThere:PySem.W.mroIn K C_NotThere (.ref C_DoseError)=some true)
    (eg_NotThere:PySem.W.findIn K (.ref C_NotThere) "__getattribute__"=some (some (.builtin "BaseException.__getattribute__")))
    (eh_NotThere:PySem.W.findIn K (.ref C_NotThere) "__getattr__"=some none)
    (eb_NotThere:PySem.W.mroIn K C_NotThere (.type "BaseException")=some true)
    (eo_NotThere:PySem.W.mroIn K C_NotThere (.type "object")=some true)
    (ec_NotThere:PySem.W.findIn K (.ref C_NotThere) "__class__"=some (some (.builtin "object.__class__")))
    (t_DoseError:PySem.W.ktsIn K C_DoseError "BaseException"=true)
    (cg:PySem.W.specialIn K (.builtin "object.__class__") "__get__"=some (some (.builtin "getset_descriptor.__get__")))
    (ct:PySem.W.takesIn K (.builtin "object.__class__")=some true)
    (a_Day:PySem.W.nsIn K mainGlobals "Day"=some (some (.ref C_Day)))
    (pg_Day:PySem.W.plainGet K C_Day Str.empty=true)
    (hd_Day:PySem.W.hasDictIn K C_Day=true)
    (po_Day:PySem.W.plainOver K C_Day=true)
    (sa_Day:PySem.W.findIn K (.ref C_Day) "__setattr__"=some (some (.builtin "object.__setattr__")))
    (mk_Day:PySem.W.makesIn K C_Day=true)
    (kc_Day:PySem.W.keepIn K (.ref C_Day)=true)
    (n_Day_ticks:PySem.W.findIn K (.ref C_Day) "ticks"=some none)
    (n_Day_parts:PySem.W.findIn K (.ref C_Day) "parts"=some none)
    (n_Day_sums:PySem.W.findIn K (.ref C_Day) "sums"=some none)
    (a_Day_init:PySem.W.findIn K (.ref C_Day) "__init__"=some (some (.ref f_Day_init)))
    (i_Day_init:PySem.W.isFn K (.ref f_Day_init)=true)
    (l_Day_init:K.lookup f_Day_init=some ⟨oc_Day_init,od_Day_init,.func (PySem.W.fnOf "__init__" "Day.__init__" (defArgs s_Day_init) (defBody s_Day_init) (defScope s_Day_init) .none kV_Day_init dc_Day_init pm_Day_init an_Day_init cd_Day_init ct_Day_init),sl_Day_init⟩)
    (c_Day_init:PySem.W.codeIn K cd_Day_init "Day.__init__"=true)
    (k_Day_init:PySem.W.keepIn K (.ref f_Day_init)=true)
    (a_Day_due:PySem.W.findIn K (.ref C_Day) "due"=some (some (.ref f_Day_due)))
    (i_Day_due:PySem.W.isFn K (.ref f_Day_due)=true)
    (l_Day_due:K.lookup f_Day_due=some ⟨oc_Day_due,od_Day_due,.func (PySem.W.fnOf "due" "Day.due" (defArgs s_Day_due) (defBody s_Day_due) (defScope s_Day_due) .none kV_Day_due dc_Day_due pm_Day_due an_Day_due cd_Day_due ct_Day_due),sl_Day_due⟩)
    (c_Day_due:PySem.W.codeIn K cd_Day_due "Day.due"=true)
    (k_Day_due:PySem.W.keepIn K (.ref f_Day_due)=true)
    (a_Pump:PySem.W.nsIn K mainGlobals "Pump"=some (some (.ref C_Pump)))
    (pg_Pump:PySem.W.plainGet K C_Pump Str.empty=true)
    (hd_Pump:PySem.W.hasDictIn K C_Pump=true)
    (po_Pump:PySem.W.plainOver K C_Pump=true)
    (sa_Pump:PySem.W.findIn K (.ref C_Pump) "__setattr__"=some (some (.builtin "object.__setattr__")))
    (mk_Pump:PySem.W.makesIn K C_Pump=true)
    (kc_Pump:PySem.W.keepIn K (.ref C_Pump)=true)
    (n_Pump_day:PySem.W.findIn K (.ref C_Pump) "day"=some none)
    (n_Pump_rules:PySem.W.findIn K (.ref C_Pump) "rules"=some none)
    (n_Pump_lock:PySem.W.findIn K (.ref C_Pump) "lock"=some none)
    (n_Pump_dose:PySem.W.findIn K (.ref C_Pump) "dose"=some none)
    (n_Pump_hold:PySem.W.findIn K (.ref C_Pump) "hold"=some none)
    (n_Pump_now:PySem.W.findIn K (.ref C_Pump) "now"=some none)
    (n_Pump_running:PySem.W.findIn K (.ref C_Pump) "running"=some none)
    (n_Pump_content:PySem.W.findIn K (.ref C_Pump) "content"=some none)
    (n_Pump_waiting:PySem.W.findIn K (.ref C_Pump) "waiting"=some none)
    (n_Pump_asked:PySem.W.findIn K (.ref C_Pump) "asked"=some none)
    (n_Pump_missed:PySem.W.findIn K (.ref C_Pump) "missed"=some none)
    (n_Pump_total:PySem.W.findIn K (.ref C_Pump) "total"=some none)
    (n_Pump_free:PySem.W.findIn K (.ref C_Pump) "free"=some none)
    (n_Pump_sent:PySem.W.findIn K (.ref C_Pump) "sent"=some none)
    (a_Pump_init:PySem.W.findIn K (.ref C_Pump) "__init__"=some (some (.ref f_Pump_init)))
    (i_Pump_init:PySem.W.isFn K (.ref f_Pump_init)=true)
    (l_Pump_init:K.lookup f_Pump_init=some ⟨oc_Pump_init,od_Pump_init,.func (PySem.W.fnOf "__init__" "Pump.__init__" (defArgs s_Pump_init) (defBody s_Pump_init) (defScope s_Pump_init) .none kV_Pump_init dc_Pump_init pm_Pump_init an_Pump_init cd_Pump_init ct_Pump_init),sl_Pump_init⟩)
    (c_Pump_init:PySem.W.codeIn K cd_Pump_init "Pump.__init__"=true)
    (k_Pump_init:PySem.W.keepIn K (.ref f_Pump_init)=true)
    (a_Pump_time:PySem.W.findIn K (.ref C_Pump) "time"=some (some (.ref f_Pump_time)))
    (i_Pump_time:PySem.W.isFn K (.ref f_Pump_time)=true)
    (l_Pump_time:K.lookup f_Pump_time=some ⟨oc_Pump_time,od_Pump_time,.func (PySem.W.fnOf "time" "Pump.time" (defArgs s_Pump_time) (defBody s_Pump_time) (defScope s_Pump_time) .none kV_Pump_time dc_Pump_time pm_Pump_time an_Pump_time cd_Pump_time ct_Pump_time),sl_Pump_time⟩)
    (c_Pump_time:PySem.W.codeIn K cd_Pump_time "Pump.time"=true)
    (k_Pump_time:PySem.W.keepIn K (.ref f_Pump_time)=true)
    (a_Pump_is_running:PySem.W.findIn K (.ref C_Pump) "is_running"=some (some (.ref f_Pump_is_running)))
    (i_Pump_is_running:PySem.W.isFn K (.ref f_Pump_is_running)=true)
    (l_Pump_is_running:K.lookup f_Pump_is_running=some ⟨oc_Pump_is_running,od_Pump_is_running,.func (PySem.W.fnOf "is_running" "Pump.is_running" (defArgs s_Pump_is_running) (defBody s_Pump_is_running) (defScope s_Pump_is_running) .none kV_Pump_is_running dc_Pump_is_running pm_Pump_is_running an_Pump_is_running cd_Pump_is_running ct_Pump_is_running),sl_Pump_is_running⟩)
    (c_Pump_is_running:PySem.W.codeIn K cd_Pump_is_running "Pump.is_running"=true)
    (k_Pump_is_running:PySem.W.keepIn K (.ref f_Pump_is_running)=true)
    (a_Pump_state:PySem.W.findIn K (.ref C_Pump) "state"=some (some (.ref f_Pump_state)))
    (i_Pump_state:PySem.W.isFn K (.ref f_Pump_state)=true)
    (l_Pump_state:K.lookup f_Pump_state=some ⟨oc_Pump_state,od_Pump_state,.func (PySem.W.fnOf "state" "Pump.state" (defArgs s_Pump_state) (defBody s_Pump_state) (defScope s_Pump_state) .none kV_Pump_state dc_Pump_state pm_Pump_state an_Pump_state cd_Pump_state ct_Pump_state),sl_Pump_state⟩)
    (c_Pump_state:PySem.W.codeIn K cd_Pump_state "Pump.state"=true)
    (k_Pump_state:PySem.W.keepIn K (.ref f_Pump_state)=true)
    (a_check_between:PySem.W.nsIn K mainGlobals "check_between"=some (some (.ref f_check_between)))
    (l_check_between:K.lookup f_check_between=some ⟨oc_check_between,od_check_between,.func (PySem.W.fnOf "check_between" "check_between" (defArgs s_check_between) (defBody s_check_between) (defScope s_check_between) .none kV_check_between dc_check_between pm_check_between an_check_between cd_check_between ct_check_between),sl_check_between⟩)
    (c_check_between:PySem.W.codeIn K cd_check_between "check_between"=true)
    (k_check_between:PySem.W.keepIn K (.ref f_check_between)=true)
    (a_drops_by:PySem.W.nsIn K mainGlobals "drops_by"=some (some (.ref f_drops_by)))
    (l_drops_by:K.lookup f_drops_by=some ⟨oc_drops_by,od_drops_by,.func (PySem.W.fnOf "drops_by" "drops_by" (defArgs s_drops_by) (defBody s_drops_by) (defScope s_drops_by) .none kV_drops_by dc_drops_by pm_drops_by an_drops_by cd_drops_by ct_drops_by),sl_drops_by⟩)
    (c_drops_by:PySem.W.codeIn K cd_drops_by "drops_by"=true)
    (k_drops_by:PySem.W.keepIn K (.ref f_drops_by)=true)
    (a_drops_at:PySem.W.nsIn K mainGlobals "drops_at"=some (some (.ref f_drops_at)))
    (l_drops_at:K.lookup f_drops_at=some ⟨oc_drops_at,od_drops_at,.func (PySem.W.fnOf "drops_at" "drops_at" (defArgs s_drops_at) (defBody s_drops_at) (defScope s_drops_at) .none kV_drops_at dc_drops_at pm_drops_at an_drops_at cd_drops_at ct_drops_at),sl_drops_at⟩)
    (c_drops_at:PySem.W.codeIn K cd_drops_at "drops_at"=true)
    (k_drops_at:PySem.W.keepIn K (.ref f_drops_at)=true)
    (a_check_part:PySem.W.nsIn K mainGlobals "check_part"=some (some (.ref f_check_part)))
    (l_check_part:K.lookup f_check_part=some ⟨oc_check_part,od_check_part,.func (PySem.W.fnOf "check_part" "check_part" (defArgs s_check_part) (defBody s_check_part) (defScope s_check_part) .none kV_check_part dc_check_part pm_check_part an_check_part cd_check_part ct_check_part),sl_check_part⟩)
    (c_check_part:PySem.W.codeIn K cd_check_part "check_part"=true)
    (k_check_part:PySem.W.keepIn K (.ref f_check_part)=true)
    (a_check_day:PySem.W.nsIn K mainGlobals "check_day"=some (some (.ref f_check_day)))
    (l_check_day:K.lookup f_check_day=some ⟨oc_check_day,od_check_day,.func (PySem.W.fnOf "check_day" "check_day" (defArgs s_check_day) (defBody s_check_day) (defScope s_check_day) .none kV_check_day dc_check_day pm_check_day an_check_day cd_check_day ct_check_day),sl_check_day⟩)
    (c_check_day:PySem.W.codeIn K cd_check_day "check_day"=true)
    (k_check_day:PySem.W.keepIn K (.ref f_check_day)=true)
    (a_drops_within:PySem.W.nsIn K mainGlobals "drops_within"=some (some (.ref f_drops_within)))
    (l_drops_within:K.lookup f_drops_within=some ⟨oc_drops_within,od_drops_within,.func (PySem.W.fnOf "drops_within" "drops_within" (defArgs s_drops_within) (defBody s_drops_within) (defScope s_drops_within) .none kV_drops_within dc_drops_within pm_drops_within an_drops_within cd_drops_within ct_drops_within),sl_drops_within⟩)
    (c_drops_within:PySem.W.codeIn K cd_drops_within "drops_within"=true)
    (k_drops_within:PySem.W.keepIn K (.ref f_drops_within)=true)
    (a_sums_ahead:PySem.W.nsIn K mainGlobals "sums_ahead"=some (some (.ref f_sums_ahead)))
    (l_sums_ahead:K.lookup f_sums_ahead=some ⟨oc_sums_ahead,od_sums_ahead,.func (PySem.W.fnOf "sums_ahead" "sums_ahead" (defArgs s_sums_ahead) (defBody s_sums_ahead) (defScope s_sums_ahead) .none kV_sums_ahead dc_sums_ahead pm_sums_ahead an_sums_ahead cd_sums_ahead ct_sums_ahead),sl_sums_ahead⟩)
    (c_sums_ahead:PySem.W.codeIn K cd_sums_ahead "sums_ahead"=true)
    (k_sums_ahead:PySem.W.keepIn K (.ref f_sums_ahead)=true)
    (a_place_of_part:PySem.W.nsIn K mainGlobals "place_of_part"=some (some (.ref f_place_of_part)))
    (l_place_of_part:K.lookup f_place_of_part=some ⟨oc_place_of_part,od_place_of_part,.func (PySem.W.fnOf "place_of_part" "place_of_part" (defArgs s_place_of_part) (defBody s_place_of_part) (defScope s_place_of_part) .none kV_place_of_part dc_place_of_part pm_place_of_part an_place_of_part cd_place_of_part ct_place_of_part),sl_place_of_part⟩)
    (c_place_of_part:PySem.W.codeIn K cd_place_of_part "place_of_part"=true)
    (k_place_of_part:PySem.W.keepIn K (.ref f_place_of_part)=true)
    (a_checked_rules:PySem.W.nsIn K mainGlobals "checked_rules"=some (some (.ref f_checked_rules)))
    (l_checked_rules:K.lookup f_checked_rules=some ⟨oc_checked_rules,od_checked_rules,.func (PySem.W.fnOf "checked_rules" "checked_rules" (defArgs s_checked_rules) (defBody s_checked_rules) (defScope s_checked_rules) .none kV_checked_rules dc_checked_rules pm_checked_rules an_checked_rules cd_checked_rules ct_checked_rules),sl_checked_rules⟩)
    (c_checked_rules:PySem.W.codeIn K cd_checked_rules "checked_rules"=true)
    (k_checked_rules:PySem.W.keepIn K (.ref f_checked_rules)=true)
    (a_longest_window:PySem.W.nsIn K mainGlobals "longest_window"=some (some (.ref f_longest_window)))
    (l_longest_window:K.lookup f_longest_window=some ⟨oc_longest_window,od_longest_window,.func (PySem.W.fnOf "longest_window" "longest_window" (defArgs s_longest_window) (defBody s_longest_window) (defScope s_longest_window) .none kV_longest_window dc_longest_window pm_longest_window an_longest_window cd_longest_window ct_longest_window),sl_longest_window⟩)
    (c_longest_window:PySem.W.codeIn K cd_longest_window "longest_window"=true)
    (k_longest_window:PySem.W.keepIn K (.ref f_longest_window)=true)
    (a_sum_of_last:PySem.W.nsIn K mainGlobals "sum_of_last"=some (some (.ref f_sum_of_last)))
    (l_sum_of_last:K.lookup f_sum_of_last=some ⟨oc_sum_of_last,od_sum_of_last,.func (PySem.W.fnOf "sum_of_last" "sum_of_last" (defArgs s_sum_of_last) (defBody s_sum_of_last) (defScope s_sum_of_last) .none kV_sum_of_last dc_sum_of_last pm_sum_of_last an_sum_of_last cd_sum_of_last ct_sum_of_last),sl_sum_of_last⟩)
    (c_sum_of_last:PySem.W.codeIn K cd_sum_of_last "sum_of_last"=true)
    (k_sum_of_last:PySem.W.keepIn K (.ref f_sum_of_last)=true)
    (a_room_left:PySem.W.nsIn K mainGlobals "room_left"=some (some (.ref f_room_left)))
    (l_room_left:K.lookup f_room_left=some ⟨oc_room_left,od_room_left,.func (PySem.W.fnOf "room_left" "room_left" (defArgs s_room_left) (defBody s_room_left) (defScope s_room_left) .none kV_room_left dc_room_left pm_room_left an_room_left cd_room_left ct_room_left),sl_room_left⟩)
    (c_room_left:PySem.W.codeIn K cd_room_left "room_left"=true)
    (k_room_left:PySem.W.keepIn K (.ref f_room_left)=true)
    (a_room:PySem.W.nsIn K mainGlobals "room"=some (some (.ref f_room)))
    (l_room:K.lookup f_room=some ⟨oc_room,od_room,.func (PySem.W.fnOf "room" "room" (defArgs s_room) (defBody s_room) (defScope s_room) .none kV_room dc_room pm_room an_room cd_room ct_room),sl_room⟩)
    (c_room:PySem.W.codeIn K cd_room "room"=true)
    (k_room:PySem.W.keepIn K (.ref f_room)=true)
    (a_send:PySem.W.nsIn K mainGlobals "send"=some (some (.ref f_send)))
    (l_send:K.lookup f_send=some ⟨oc_send,od_send,.func (PySem.W.fnOf "send" "send" (defArgs s_send) (defBody s_send) (defScope s_send) .none kV_send dc_send pm_send an_send cd_send ct_send),sl_send⟩)
    (c_send:PySem.W.codeIn K cd_send "send"=true)
    (k_send:PySem.W.keepIn K (.ref f_send)=true)
    (a_miss_above_hold:PySem.W.nsIn K mainGlobals "miss_above_hold"=some (some (.ref f_miss_above_hold)))
    (l_miss_above_hold:K.lookup f_miss_above_hold=some ⟨oc_miss_above_hold,od_miss_above_hold,.func (PySem.W.fnOf "miss_above_hold" "miss_above_hold" (defArgs s_miss_above_hold) (defBody s_miss_above_hold) (defScope s_miss_above_hold) .none kV_miss_above_hold dc_miss_above_hold pm_miss_above_hold an_miss_above_hold cd_miss_above_hold ct_miss_above_hold),sl_miss_above_hold⟩)
    (c_miss_above_hold:PySem.W.codeIn K cd_miss_above_hold "miss_above_hold"=true)
    (k_miss_above_hold:PySem.W.keepIn K (.ref f_miss_above_hold)=true)
    (a_tick:PySem.W.nsIn K mainGlobals "tick"=some (some (.ref f_tick)))
    (l_tick:K.lookup f_tick=some ⟨oc_tick,od_tick,.func (PySem.W.fnOf "tick" "tick" (defArgs s_tick) (defBody s_tick) (defScope s_tick) .none kV_tick dc_tick pm_tick an_tick cd_tick ct_tick),sl_tick⟩)
    (c_tick:PySem.W.codeIn K cd_tick "tick"=true)
    (k_tick:PySem.W.keepIn K (.ref f_tick)=true)
    (a_start:PySem.W.nsIn K mainGlobals "start"=some (some (.ref f_start)))
    (l_start:K.lookup f_start=some ⟨oc_start,od_start,.func (PySem.W.fnOf "start" "start" (defArgs s_start) (defBody s_start) (defScope s_start) .none kV_start dc_start pm_start an_start cd_start ct_start),sl_start⟩)
    (c_start:PySem.W.codeIn K cd_start "start"=true)
    (k_start:PySem.W.keepIn K (.ref f_start)=true)
    (a_stop:PySem.W.nsIn K mainGlobals "stop"=some (some (.ref f_stop)))
    (l_stop:K.lookup f_stop=some ⟨oc_stop,od_stop,.func (PySem.W.fnOf "stop" "stop" (defArgs s_stop) (defBody s_stop) (defScope s_stop) .none kV_stop dc_stop pm_stop an_stop cd_stop ct_stop),sl_stop⟩)
    (c_stop:PySem.W.codeIn K cd_stop "stop"=true)
    (k_stop:PySem.W.keepIn K (.ref f_stop)=true)
    (a_fill:PySem.W.nsIn K mainGlobals "fill"=some (some (.ref f_fill)))
    (l_fill:K.lookup f_fill=some ⟨oc_fill,od_fill,.func (PySem.W.fnOf "fill" "fill" (defArgs s_fill) (defBody s_fill) (defScope s_fill) .none kV_fill dc_fill pm_fill an_fill cd_fill ct_fill),sl_fill⟩)
    (c_fill:PySem.W.codeIn K cd_fill "fill"=true)
    (k_fill:PySem.W.keepIn K (.ref f_fill)=true)
    (a_press:PySem.W.nsIn K mainGlobals "press"=some (some (.ref f_press)))
    (l_press:K.lookup f_press=some ⟨oc_press,od_press,.func (PySem.W.fnOf "press" "press" (defArgs s_press) (defBody s_press) (defScope s_press) .none kV_press dc_press pm_press an_press cd_press ct_press),sl_press⟩)
    (c_press:PySem.W.codeIn K cd_press "press"=true)
    (k_press:PySem.W.keepIn K (.ref f_press)=true)
    (a_report:PySem.W.nsIn K mainGlobals "report"=some (some (.ref f_report)))
    (l_report:K.lookup f_report=some ⟨oc_report,od_report,.func (PySem.W.fnOf "report" "report" (defArgs s_report) (defBody s_report) (defScope s_report) .none kV_report dc_report pm_report an_report cd_report ct_report),sl_report⟩)
    (c_report:PySem.W.codeIn K cd_report "report"=true)
    (k_report:PySem.W.keepIn K (.ref f_report)=true)
    (a_Lcell:PySem.W.nsIn K mainGlobals "_law_cell"=some (some (.ref f_Lcell)))
    (l_Lcell:K.lookup f_Lcell=some ⟨oc_Lcell,od_Lcell,.func (PySem.W.fnOf "_law_cell" "_law_cell" (defArgs s_Lcell) (defBody s_Lcell) (defScope s_Lcell) .none kV_Lcell dc_Lcell pm_Lcell an_Lcell cd_Lcell ct_Lcell),sl_Lcell⟩)
    (c_Lcell:PySem.W.codeIn K cd_Lcell "_law_cell"=true)
    (k_Lcell:PySem.W.keepIn K (.ref f_Lcell)=true)
    (a_Lmix:PySem.W.nsIn K mainGlobals "_law_mix"=some (some (.ref f_Lmix)))
    (l_Lmix:K.lookup f_Lmix=some ⟨oc_Lmix,od_Lmix,.func (PySem.W.fnOf "_law_mix" "_law_mix" (defArgs s_Lmix) (defBody s_Lmix) (defScope s_Lmix) .none kV_Lmix dc_Lmix pm_Lmix an_Lmix cd_Lmix ct_Lmix),sl_Lmix⟩)
    (c_Lmix:PySem.W.codeIn K cd_Lmix "_law_mix"=true)
    (k_Lmix:PySem.W.keepIn K (.ref f_Lmix)=true)
    (a_Lwhole:PySem.W.nsIn K mainGlobals "_law_whole"=some (some (.ref f_Lwhole)))
    (l_Lwhole:K.lookup f_Lwhole=some ⟨oc_Lwhole,od_Lwhole,.func (PySem.W.fnOf "_law_whole" "_law_whole" (defArgs s_Lwhole) (defBody s_Lwhole) (defScope s_Lwhole) .none kV_Lwhole dc_Lwhole pm_Lwhole an_Lwhole cd_Lwhole ct_Lwhole),sl_Lwhole⟩)
    (c_Lwhole:PySem.W.codeIn K cd_Lwhole "_law_whole"=true)
    (k_Lwhole:PySem.W.keepIn K (.ref f_Lwhole)=true)
    (a_Lday:PySem.W.nsIn K mainGlobals "_law_day"=some (some (.ref f_Lday)))
    (l_Lday:K.lookup f_Lday=some ⟨oc_Lday,od_Lday,.func (PySem.W.fnOf "_law_day" "_law_day" (defArgs s_Lday) (defBody s_Lday) (defScope s_Lday) .none kV_Lday dc_Lday pm_Lday an_Lday cd_Lday ct_Lday),sl_Lday⟩)
    (c_Lday:PySem.W.codeIn K cd_Lday "_law_day"=true)
    (k_Lday:PySem.W.keepIn K (.ref f_Lday)=true)
    (a_Lrules:PySem.W.nsIn K mainGlobals "_law_rules"=some (some (.ref f_Lrules)))
    (l_Lrules:K.lookup f_Lrules=some ⟨oc_Lrules,od_Lrules,.func (PySem.W.fnOf "_law_rules" "_law_rules" (defArgs s_Lrules) (defBody s_Lrules) (defScope s_Lrules) .none kV_Lrules dc_Lrules pm_Lrules an_Lrules cd_Lrules ct_Lrules),sl_Lrules⟩)
    (c_Lrules:PySem.W.codeIn K cd_Lrules "_law_rules"=true)
    (k_Lrules:PySem.W.keepIn K (.ref f_Lrules)=true)
    (a_Lsetting:PySem.W.nsIn K mainGlobals "_law_setting"=some (some (.ref f_Lsetting)))
    (l_Lsetting:K.lookup f_Lsetting=some ⟨oc_Lsetting,od_Lsetting,.func (PySem.W.fnOf "_law_setting" "_law_setting" (defArgs s_Lsetting) (defBody s_Lsetting) (defScope s_Lsetting) .none kV_Lsetting dc_Lsetting pm_Lsetting an_Lsetting cd_Lsetting ct_Lsetting),sl_Lsetting⟩)
    (c_Lsetting:PySem.W.codeIn K cd_Lsetting "_law_setting"=true)
    (k_Lsetting:PySem.W.keepIn K (.ref f_Lsetting)=true)
    (a_Ldue:PySem.W.nsIn K mainGlobals "_law_due"=some (some (.ref f_Ldue)))
    (l_Ldue:K.lookup f_Ldue=some ⟨oc_Ldue,od_Ldue,.func (PySem.W.fnOf "_law_due" "_law_due" (defArgs s_Ldue) (defBody s_Ldue) (defScope s_Ldue) .none kV_Ldue dc_Ldue pm_Ldue an_Ldue cd_Ldue ct_Ldue),sl_Ldue⟩)
    (c_Ldue:PySem.W.codeIn K cd_Ldue "_law_due"=true)
    (k_Ldue:PySem.W.keepIn K (.ref f_Ldue)=true)
    (a_Ldeed:PySem.W.nsIn K mainGlobals "_law_deed"=some (some (.ref f_Ldeed)))
    (l_Ldeed:K.lookup f_Ldeed=some ⟨oc_Ldeed,od_Ldeed,.func (PySem.W.fnOf "_law_deed" "_law_deed" (defArgs s_Ldeed) (defBody s_Ldeed) (defScope s_Ldeed) .none kV_Ldeed dc_Ldeed pm_Ldeed an_Ldeed cd_Ldeed ct_Ldeed),sl_Ldeed⟩)
    (c_Ldeed:PySem.W.codeIn K cd_Ldeed "_law_deed"=true)
    (k_Ldeed:PySem.W.keepIn K (.ref f_Ldeed)=true)
    (a_Lnew:PySem.W.nsIn K mainGlobals "_law_new"=some (some (.ref f_Lnew)))
    (l_Lnew:K.lookup f_Lnew=some ⟨oc_Lnew,od_Lnew,.func (PySem.W.fnOf "_law_new" "_law_new" (defArgs s_Lnew) (defBody s_Lnew) (defScope s_Lnew) .none kV_Lnew dc_Lnew pm_Lnew an_Lnew cd_Lnew ct_Lnew),sl_Lnew⟩)
    (c_Lnew:PySem.W.codeIn K cd_Lnew "_law_new"=true)
    (k_Lnew:PySem.W.keepIn K (.ref f_Lnew)=true)
    (a_Lasked:PySem.W.nsIn K mainGlobals "_law_asked"=some (some (.ref f_Lasked)))
    (l_Lasked:K.lookup f_Lasked=some ⟨oc_Lasked,od_Lasked,.func (PySem.W.fnOf "_law_asked" "_law_asked" (defArgs s_Lasked) (defBody s_Lasked) (defScope s_Lasked) .none kV_Lasked dc_Lasked pm_Lasked an_Lasked cd_Lasked ct_Lasked),sl_Lasked⟩)
    (c_Lasked:PySem.W.codeIn K cd_Lasked "_law_asked"=true)
    (k_Lasked:PySem.W.keepIn K (.ref f_Lasked)=true)
    (a_Lstart:PySem.W.nsIn K mainGlobals "_law_start"=some (some (.ref f_Lstart)))
    (l_Lstart:K.lookup f_Lstart=some ⟨oc_Lstart,od_Lstart,.func (PySem.W.fnOf "_law_start" "_law_start" (defArgs s_Lstart) (defBody s_Lstart) (defScope s_Lstart) .none kV_Lstart dc_Lstart pm_Lstart an_Lstart cd_Lstart ct_Lstart),sl_Lstart⟩)
    (c_Lstart:PySem.W.codeIn K cd_Lstart "_law_start"=true)
    (k_Lstart:PySem.W.keepIn K (.ref f_Lstart)=true)
    (a_Lroom:PySem.W.nsIn K mainGlobals "_law_room"=some (some (.ref f_Lroom)))
    (l_Lroom:K.lookup f_Lroom=some ⟨oc_Lroom,od_Lroom,.func (PySem.W.fnOf "_law_room" "_law_room" (defArgs s_Lroom) (defBody s_Lroom) (defScope s_Lroom) .none kV_Lroom dc_Lroom pm_Lroom an_Lroom cd_Lroom ct_Lroom),sl_Lroom⟩)
    (c_Lroom:PySem.W.codeIn K cd_Lroom "_law_room"=true)
    (k_Lroom:PySem.W.keepIn K (.ref f_Lroom)=true)
    (a_Ltick:PySem.W.nsIn K mainGlobals "_law_tick"=some (some (.ref f_Ltick)))
    (l_Ltick:K.lookup f_Ltick=some ⟨oc_Ltick,od_Ltick,.func (PySem.W.fnOf "_law_tick" "_law_tick" (defArgs s_Ltick) (defBody s_Ltick) (defScope s_Ltick) .none kV_Ltick dc_Ltick pm_Ltick an_Ltick cd_Ltick ct_Ltick),sl_Ltick⟩)
    (c_Ltick:PySem.W.codeIn K cd_Ltick "_law_tick"=true)
    (k_Ltick:PySem.W.keepIn K (.ref f_Ltick)=true)
    (a_Lreport:PySem.W.nsIn K mainGlobals "_law_report"=some (some (.ref f_Lreport)))
    (l_Lreport:K.lookup f_Lreport=some ⟨oc_Lreport,od_Lreport,.func (PySem.W.fnOf "_law_report" "_law_report" (defArgs s_Lreport) (defBody s_Lreport) (defScope s_Lreport) .none kV_Lreport dc_Lreport pm_Lreport an_Lreport cd_Lreport ct_Lreport),sl_Lreport⟩)
    (c_Lreport:PySem.W.codeIn K cd_Lreport "_law_report"=true)
    (k_Lreport:PySem.W.keepIn K (.ref f_Lreport)=true)
    (a_Ldone:PySem.W.nsIn K mainGlobals "_law_done"=some (some (.ref f_Ldone)))
    (l_Ldone:K.lookup f_Ldone=some ⟨oc_Ldone,od_Ldone,.func (PySem.W.fnOf "_law_done" "_law_done" (defArgs s_Ldone) (defBody s_Ldone) (defScope s_Ldone) .none kV_Ldone dc_Ldone pm_Ldone an_Ldone cd_Ldone ct_Ldone),sl_Ldone⟩)
    (c_Ldone:PySem.W.codeIn K cd_Ldone "_law_done"=true)
    (k_Ldone:PySem.W.keepIn K (.ref f_Ldone)=true)
    (a_Lis:PySem.W.nsIn K mainGlobals "_law_is"=some (some (.ref f_Lis)))
    (l_Lis:K.lookup f_Lis=some ⟨oc_Lis,od_Lis,.func (PySem.W.fnOf "_law_is" "_law_is" (defArgs s_Lis) (defBody s_Lis) (defScope s_Lis) .none kV_Lis dc_Lis pm_Lis an_Lis cd_Lis ct_Lis),sl_Lis⟩)
    (c_Lis:PySem.W.codeIn K cd_Lis "_law_is"=true)
    (k_Lis:PySem.W.keepIn K (.ref f_Lis)=true)
    (a_Lsame:PySem.W.nsIn K mainGlobals "_law_same"=some (some (.ref f_Lsame)))
    (l_Lsame:K.lookup f_Lsame=some ⟨oc_Lsame,od_Lsame,.func (PySem.W.fnOf "_law_same" "_law_same" (defArgs s_Lsame) (defBody s_Lsame) (defScope s_Lsame) .none kV_Lsame dc_Lsame pm_Lsame an_Lsame cd_Lsame ct_Lsame),sl_Lsame⟩)
    (c_Lsame:PySem.W.codeIn K cd_Lsame "_law_same"=true)
    (k_Lsame:PySem.W.keepIn K (.ref f_Lsame)=true)
    (a_counts:PySem.W.nsIn K mainGlobals "counts"=some (some (.ref f_counts)))
    (l_counts:K.lookup f_counts=some ⟨oc_counts,od_counts,.func (PySem.W.fnOf "counts" "counts" (defArgs s_counts) (defBody s_counts) (defScope s_counts) .none kV_counts dc_counts pm_counts an_counts cd_counts ct_counts),sl_counts⟩)
    (c_counts:PySem.W.codeIn K cd_counts "counts"=true)
    (k_counts:PySem.W.keepIn K (.ref f_counts)=true)
    (a_set_counts:PySem.W.nsIn K mainGlobals "set_counts"=some (some (.ref f_set_counts)))
    (l_set_counts:K.lookup f_set_counts=some ⟨oc_set_counts,od_set_counts,.func (PySem.W.fnOf "set_counts" "set_counts" (defArgs s_set_counts) (defBody s_set_counts) (defScope s_set_counts) .none kV_set_counts dc_set_counts pm_set_counts an_set_counts cd_set_counts ct_set_counts),sl_set_counts⟩)
    (c_set_counts:PySem.W.codeIn K cd_set_counts "set_counts"=true)
    (k_set_counts:PySem.W.keepIn K (.ref f_set_counts)=true)
    (a_line_of:PySem.W.nsIn K mainGlobals "line_of"=some (some (.ref f_line_of)))
    (l_line_of:K.lookup f_line_of=some ⟨oc_line_of,od_line_of,.func (PySem.W.fnOf "line_of" "line_of" (defArgs s_line_of) (defBody s_line_of) (defScope s_line_of) .none kV_line_of dc_line_of pm_line_of an_line_of cd_line_of ct_line_of),sl_line_of⟩)
    (c_line_of:PySem.W.codeIn K cd_line_of "line_of"=true)
    (k_line_of:PySem.W.keepIn K (.ref f_line_of)=true)
    (a_saved:PySem.W.nsIn K mainGlobals "saved"=some (some (.ref f_saved)))
    (l_saved:K.lookup f_saved=some ⟨oc_saved,od_saved,.func (PySem.W.fnOf "saved" "saved" (defArgs s_saved) (defBody s_saved) (defScope s_saved) .none kV_saved dc_saved pm_saved an_saved cd_saved ct_saved),sl_saved⟩)
    (c_saved:PySem.W.codeIn K cd_saved "saved"=true)
    (k_saved:PySem.W.keepIn K (.ref f_saved)=true)
    (a_is_number:PySem.W.nsIn K mainGlobals "is_number"=some (some (.ref f_is_number)))
    (l_is_number:K.lookup f_is_number=some ⟨oc_is_number,od_is_number,.func (PySem.W.fnOf "is_number" "is_number" (defArgs s_is_number) (defBody s_is_number) (defScope s_is_number) .none kV_is_number dc_is_number pm_is_number an_is_number cd_is_number ct_is_number),sl_is_number⟩)
    (c_is_number:PySem.W.codeIn K cd_is_number "is_number"=true)
    (k_is_number:PySem.W.keepIn K (.ref f_is_number)=true)
    (a_numbers_of:PySem.W.nsIn K mainGlobals "numbers_of"=some (some (.ref f_numbers_of)))
    (l_numbers_of:K.lookup f_numbers_of=some ⟨oc_numbers_of,od_numbers_of,.func (PySem.W.fnOf "numbers_of" "numbers_of" (defArgs s_numbers_of) (defBody s_numbers_of) (defScope s_numbers_of) .none kV_numbers_of dc_numbers_of pm_numbers_of an_numbers_of cd_numbers_of ct_numbers_of),sl_numbers_of⟩)
    (c_numbers_of:PySem.W.codeIn K cd_numbers_of "numbers_of"=true)
    (k_numbers_of:PySem.W.keepIn K (.ref f_numbers_of)=true)
    (a_fits:PySem.W.nsIn K mainGlobals "fits"=some (some (.ref f_fits)))
    (l_fits:K.lookup f_fits=some ⟨oc_fits,od_fits,.func (PySem.W.fnOf "fits" "fits" (defArgs s_fits) (defBody s_fits) (defScope s_fits) .none kV_fits dc_fits pm_fits an_fits cd_fits ct_fits),sl_fits⟩)
    (c_fits:PySem.W.codeIn K cd_fits "fits"=true)
    (k_fits:PySem.W.keepIn K (.ref f_fits)=true)
    (a_rows_of:PySem.W.nsIn K mainGlobals "rows_of"=some (some (.ref f_rows_of)))
    (l_rows_of:K.lookup f_rows_of=some ⟨oc_rows_of,od_rows_of,.func (PySem.W.fnOf "rows_of" "rows_of" (defArgs s_rows_of) (defBody s_rows_of) (defScope s_rows_of) .none kV_rows_of dc_rows_of pm_rows_of an_rows_of cd_rows_of ct_rows_of),sl_rows_of⟩)
    (c_rows_of:PySem.W.codeIn K cd_rows_of "rows_of"=true)
    (k_rows_of:PySem.W.keepIn K (.ref f_rows_of)=true)
    (a_loaded:PySem.W.nsIn K mainGlobals "loaded"=some (some (.ref f_loaded)))
    (l_loaded:K.lookup f_loaded=some ⟨oc_loaded,od_loaded,.func (PySem.W.fnOf "loaded" "loaded" (defArgs s_loaded) (defBody s_loaded) (defScope s_loaded) .none kV_loaded dc_loaded pm_loaded an_loaded cd_loaded ct_loaded),sl_loaded⟩)
    (c_loaded:PySem.W.codeIn K cd_loaded "loaded"=true)
    (k_loaded:PySem.W.keepIn K (.ref f_loaded)=true)
    (a_twin:PySem.W.nsIn K mainGlobals "twin"=some (some (.ref f_twin)))
    (l_twin:K.lookup f_twin=some ⟨oc_twin,od_twin,.func (PySem.W.fnOf "twin" "twin" (defArgs s_twin) (defBody s_twin) (defScope s_twin) .none kV_twin dc_twin pm_twin an_twin cd_twin ct_twin),sl_twin⟩)
    (c_twin:PySem.W.codeIn K cd_twin "twin"=true)
    (k_twin:PySem.W.keepIn K (.ref f_twin)=true)
    (a_ahead:PySem.W.nsIn K mainGlobals "ahead"=some (some (.ref f_ahead)))
    (l_ahead:K.lookup f_ahead=some ⟨oc_ahead,od_ahead,.func (PySem.W.fnOf "ahead" "ahead" (defArgs s_ahead) (defBody s_ahead) (defScope s_ahead) .none kV_ahead dc_ahead pm_ahead an_ahead cd_ahead ct_ahead),sl_ahead⟩)
    (c_ahead:PySem.W.codeIn K cd_ahead "ahead"=true)
    (k_ahead:PySem.W.keepIn K (.ref f_ahead)=true)
    (a_Llines:PySem.W.nsIn K mainGlobals "_law_lines"=some (some (.ref f_Llines)))
    (l_Llines:K.lookup f_Llines=some ⟨oc_Llines,od_Llines,.func (PySem.W.fnOf "_law_lines" "_law_lines" (defArgs s_Llines) (defBody s_Llines) (defScope s_Llines) .none kV_Llines dc_Llines pm_Llines an_Llines cd_Llines ct_Llines),sl_Llines⟩)
    (c_Llines:PySem.W.codeIn K cd_Llines "_law_lines"=true)
    (k_Llines:PySem.W.keepIn K (.ref f_Llines)=true)
    (a_law:PySem.W.nsIn K mainGlobals "law"=some (some (.ref f_law)))
    (l_law:K.lookup f_law=some ⟨oc_law,od_law,.func (PySem.W.fnOf "law" "law" (defArgs s_law) (defBody s_law) (defScope s_law) .none kV_law dc_law pm_law an_law cd_law ct_law),sl_law⟩)
    (c_law:PySem.W.codeIn K cd_law "law"=true)
    (k_law:PySem.W.keepIn K (.ref f_law)=true)
    (z_len:PySem.W.nsIn K mainGlobals "len"=some none)
    (z_zip:PySem.W.nsIn K mainGlobals "zip"=some none)
    (z_tuple:PySem.W.nsIn K mainGlobals "tuple"=some none)
    (z_range:PySem.W.nsIn K mainGlobals "range"=some none)
    (z_max:PySem.W.nsIn K mainGlobals "max"=some none)
    (z_min:PySem.W.nsIn K mainGlobals "min"=some none)
    (z_isinstance:PySem.W.nsIn K mainGlobals "isinstance"=some none)
    (z_int:PySem.W.nsIn K mainGlobals "int"=some none)
    (z_bool:PySem.W.nsIn K mainGlobals "bool"=some none)
    (z_str:PySem.W.nsIn K mainGlobals "str"=some none)
    (z_list:PySem.W.nsIn K mainGlobals "list"=some none)
    (z_sum:PySem.W.nsIn K mainGlobals "sum"=some none)
    (z_all:PySem.W.nsIn K mainGlobals "all"=some none)
    (z_ValueError:PySem.W.nsIn K mainGlobals "ValueError"=some none)
    (z_enumerate:PySem.W.nsIn K mainGlobals "enumerate"=some none)
    (z_MOST_DROPS_rates:PySem.W.nsIn K mainGlobals "MOST_DROPS_rates"=some (some (.int 1000000 tk_MOST_DROPS_rates)))
    (z_MOST_TICKS:PySem.W.nsIn K mainGlobals "MOST_TICKS"=some (some (.int 1000000 tk_MOST_TICKS)))
    (z_MOST_DROPS_limits:PySem.W.nsIn K mainGlobals "MOST_DROPS_limits"=some (some (.int 1000000 tk_MOST_DROPS_limits)))
    (z_MOST_RULES:PySem.W.nsIn K mainGlobals "MOST_RULES"=some (some (.int 4 tk_MOST_RULES)))
    (z_LONGEST_WINDOW:PySem.W.nsIn K mainGlobals "LONGEST_WINDOW"=some (some (.int 1000 tk_LONGEST_WINDOW)))
    (z_MOST:PySem.W.nsIn K mainGlobals "MOST"=some (some (.int 1000000 tk_MOST)))
    (z_MOST_FIGURES:PySem.W.nsIn K mainGlobals "MOST_FIGURES"=some (some (.int 15 tk_MOST_FIGURES)))
    (z_FIGURES:PySem.W.nsIn K mainGlobals "FIGURES"=some (some (.str "0123456789" tk_FIGURES)))
    (a_WORDS:PySem.W.nsIn K mainGlobals "WORDS"=some (some (.ref A_WORDS)))
    (l_WORDS:K.lookup A_WORDS=some ⟨.type "tuple",od_WORDS,.seq its_WORDS nn_WORDS,sl_WORDS⟩)
    (v_WORDS:Vals (words9.map V.str) its_WORDS.toList)
    (kit_ib:PySem.W.kitOne K (.type "int") (.type "bool")=some false)
    (kit_BadSetting_BadSetting:PySem.W.kitOne K (.ref C_BadSetting) (.ref C_BadSetting)=some true)
    (kit_BadSetting_Locked:PySem.W.kitOne K (.ref C_BadSetting) (.ref C_Locked)=some false)
    (kit_BadSetting_NotThere:PySem.W.kitOne K (.ref C_BadSetting) (.ref C_NotThere)=some false)
    (kit_BadSetting_v:PySem.W.kitOne K (.ref C_BadSetting) (.type "ValueError")=some true)
    (kit_BadSetting_s:PySem.W.kitOne K (.ref C_BadSetting) (.ref C_BadSave)=some false)
    (kit_Locked_BadSetting:PySem.W.kitOne K (.ref C_Locked) (.ref C_BadSetting)=some false)
    (kit_Locked_Locked:PySem.W.kitOne K (.ref C_Locked) (.ref C_Locked)=some true)
    (kit_Locked_NotThere:PySem.W.kitOne K (.ref C_Locked) (.ref C_NotThere)=some false)
    (kit_Locked_v:PySem.W.kitOne K (.ref C_Locked) (.type "ValueError")=some true)
    (kit_Locked_s:PySem.W.kitOne K (.ref C_Locked) (.ref C_BadSave)=some false)
    (kit_NotThere_BadSetting:PySem.W.kitOne K (.ref C_NotThere) (.ref C_BadSetting)=some false)
    (kit_NotThere_Locked:PySem.W.kitOne K (.ref C_NotThere) (.ref C_Locked)=some false)
    (kit_NotThere_NotThere:PySem.W.kitOne K (.ref C_NotThere) (.ref C_NotThere)=some true)
    (kit_NotThere_v:PySem.W.kitOne K (.ref C_NotThere) (.type "ValueError")=some true)
    (kit_NotThere_s:PySem.W.kitOne K (.ref C_NotThere) (.ref C_BadSave)=some false)
    (kit_sb:PySem.W.kitOne K (.type "str") (.type "bool")=some false)
    (kit_nb:PySem.W.kitOne K (.type "NoneType") (.type "bool")=some false) :
    ∃ fd:FuncData,(∀ (s:Shared) (v:Value),BindsTo s fd ⟨[v],[]⟩ [("_law_script",v)])∧∀ base:Heap,K.In base→base.Ns mainGlobals mg→FnOk l.prog w K mg base CX0 8 fa fd ["_law_script"] (spLaw K):=by
  have e:=hfa.symm.trans (PySem.W.mg_of X G a_law)
  cases e
  have E_BadSetting:ExcK K C_BadSetting:=⟨cls_some u_BadSetting,eg_BadSetting,eh_BadSetting,eb_BadSetting,eo_BadSetting,ec_BadSetting,cg,ct⟩
  have M_BadSetting:ExcM K C_BadSetting C_DoseError:=⟨t_BadSetting,under_of u_BadSetting⟩
  have E_Locked:ExcK K C_Locked:=⟨cls_some u_Locked,eg_Locked,eh_Locked,eb_Locked,eo_Locked,ec_Locked,cg,ct⟩
  have M_Locked:ExcM K C_Locked C_DoseError:=⟨t_Locked,under_of u_Locked⟩
  have E_NotThere:ExcK K C_NotThere:=⟨cls_some u_NotThere,eg_NotThere,eh_NotThere,eb_NotThere,eo_NotThere,ec_NotThere,cg,ct⟩
  have M_NotThere:ExcM K C_NotThere C_DoseError:=⟨t_NotThere,under_of u_NotThere⟩
  have cl_Day:Cls K C_Day:=⟨pg_Day,hd_Day,po_Day,sa_Day⟩
  have F_Day_init:=fun_mk (st:=s_Day_init) l_Day_init c_Day_init k_Day_init
  have b_Day_init:=F_Day_init.binds (ps:=["self", "ticks", "parts"]) fun _ _ _ _ _ _ us hl=>match us,hl with | [_,_,_],_=>rfl
  have F_Day_due:=fun_mk (st:=s_Day_due) l_Day_due c_Day_due k_Day_due
  have b_Day_due:=F_Day_due.binds (ps:=["self", "tick"]) fun _ _ _ _ _ _ us hl=>match us,hl with | [_,_],_=>rfl
  have cl_Pump:Cls K C_Pump:=⟨pg_Pump,hd_Pump,po_Pump,sa_Pump⟩
  have F_Pump_init:=fun_mk (st:=s_Pump_init) l_Pump_init c_Pump_init k_Pump_init
  have b_Pump_init:=F_Pump_init.binds (ps:=["self", "day", "rules", "lock", "dose", "hold"]) fun _ _ _ _ _ _ us hl=>match us,hl with | [_,_,_,_,_,_],_=>rfl
  have F_Pump_time:=fun_mk (st:=s_Pump_time) l_Pump_time c_Pump_time k_Pump_time
  have b_Pump_time:=F_Pump_time.binds (ps:=["self"]) fun _ _ _ _ _ _ us hl=>match us,hl with | [_],_=>rfl
  have F_Pump_is_running:=fun_mk (st:=s_Pump_is_running) l_Pump_is_running c_Pump_is_running k_Pump_is_running
  have b_Pump_is_running:=F_Pump_is_running.binds (ps:=["self"]) fun _ _ _ _ _ _ us hl=>match us,hl with | [_],_=>rfl
  have F_Pump_state:=fun_mk (st:=s_Pump_state) l_Pump_state c_Pump_state k_Pump_state
  have b_Pump_state:=F_Pump_state.binds (ps:=["self"]) fun _ _ _ _ _ _ us hl=>match us,hl with | [_],_=>rfl
  have F_check_between:=fun_mk (st:=s_check_between) l_check_between c_check_between k_check_between
  have b_check_between:=F_check_between.binds (ps:=["what", "number", "least", "most"]) fun _ _ _ _ _ _ us hl=>match us,hl with | [_,_,_,_],_=>rfl
  have F_drops_by:=fun_mk (st:=s_drops_by) l_drops_by c_drops_by k_drops_by
  have b_drops_by:=F_drops_by.binds (ps:=["rate", "ticks"]) fun _ _ _ _ _ _ us hl=>match us,hl with | [_,_],_=>rfl
  have F_drops_at:=fun_mk (st:=s_drops_at) l_drops_at c_drops_at k_drops_at
  have b_drops_at:=F_drops_at.binds (ps:=["rate", "tick"]) fun _ _ _ _ _ _ us hl=>match us,hl with | [_,_],_=>rfl
  have F_check_part:=fun_mk (st:=s_check_part) l_check_part c_check_part k_check_part
  have b_check_part:=F_check_part.binds (ps:=["ticks", "least", "part"]) fun _ _ _ _ _ _ us hl=>match us,hl with | [_,_,_],_=>rfl
  have F_check_day:=fun_mk (st:=s_check_day) l_check_day c_check_day k_check_day
  have b_check_day:=F_check_day.binds (ps:=["ticks", "parts"]) fun _ _ _ _ _ _ us hl=>match us,hl with | [_,_],_=>rfl
  have F_drops_within:=fun_mk (st:=s_drops_within) l_drops_within c_drops_within k_drops_within
  have b_drops_within:=F_drops_within.binds (ps:=["part", "tick"]) fun _ _ _ _ _ _ us hl=>match us,hl with | [_,_],_=>rfl
  have F_sums_ahead:=fun_mk (st:=s_sums_ahead) l_sums_ahead c_sums_ahead k_sums_ahead
  have b_sums_ahead:=F_sums_ahead.binds (ps:=["ticks", "parts"]) fun _ _ _ _ _ _ us hl=>match us,hl with | [_,_],_=>rfl
  have F_place_of_part:=fun_mk (st:=s_place_of_part) l_place_of_part c_place_of_part k_place_of_part
  have b_place_of_part:=F_place_of_part.binds (ps:=["parts", "tick"]) fun _ _ _ _ _ _ us hl=>match us,hl with | [_,_],_=>rfl
  have F_checked_rules:=fun_mk (st:=s_checked_rules) l_checked_rules c_checked_rules k_checked_rules
  have b_checked_rules:=F_checked_rules.binds (ps:=["rules"]) fun _ _ _ _ _ _ us hl=>match us,hl with | [_],_=>rfl
  have F_longest_window:=fun_mk (st:=s_longest_window) l_longest_window c_longest_window k_longest_window
  have b_longest_window:=F_longest_window.binds (ps:=["rules"]) fun _ _ _ _ _ _ us hl=>match us,hl with | [_],_=>rfl
  have F_sum_of_last:=fun_mk (st:=s_sum_of_last) l_sum_of_last c_sum_of_last k_sum_of_last
  have b_sum_of_last:=F_sum_of_last.binds (ps:=["numbers", "many"]) fun _ _ _ _ _ _ us hl=>match us,hl with | [_,_],_=>rfl
  have F_room_left:=fun_mk (st:=s_room_left) l_room_left c_room_left k_room_left
  have b_room_left:=F_room_left.binds (ps:=["rules", "sent"]) fun _ _ _ _ _ _ us hl=>match us,hl with | [_,_],_=>rfl
  have F_room:=fun_mk (st:=s_room) l_room c_room k_room
  have b_room:=F_room.binds (ps:=["pump"]) fun _ _ _ _ _ _ us hl=>match us,hl with | [_],_=>rfl
  have F_send:=fun_mk (st:=s_send) l_send c_send k_send
  have b_send:=F_send.binds (ps:=["pump", "many"]) fun _ _ _ _ _ _ us hl=>match us,hl with | [_,_],_=>rfl
  have F_miss_above_hold:=fun_mk (st:=s_miss_above_hold) l_miss_above_hold c_miss_above_hold k_miss_above_hold
  have b_miss_above_hold:=F_miss_above_hold.binds (ps:=["pump"]) fun _ _ _ _ _ _ us hl=>match us,hl with | [_],_=>rfl
  have F_tick:=fun_mk (st:=s_tick) l_tick c_tick k_tick
  have b_tick:=F_tick.binds (ps:=["pump"]) fun _ _ _ _ _ _ us hl=>match us,hl with | [_],_=>rfl
  have F_start:=fun_mk (st:=s_start) l_start c_start k_start
  have b_start:=F_start.binds (ps:=["pump"]) fun _ _ _ _ _ _ us hl=>match us,hl with | [_],_=>rfl
  have F_stop:=fun_mk (st:=s_stop) l_stop c_stop k_stop
  have b_stop:=F_stop.binds (ps:=["pump"]) fun _ _ _ _ _ _ us hl=>match us,hl with | [_],_=>rfl
  have F_fill:=fun_mk (st:=s_fill) l_fill c_fill k_fill
  have b_fill:=F_fill.binds (ps:=["pump", "many"]) fun _ _ _ _ _ _ us hl=>match us,hl with | [_,_],_=>rfl
  have F_press:=fun_mk (st:=s_press) l_press c_press k_press
  have b_press:=F_press.binds (ps:=["pump", "many"]) fun _ _ _ _ _ _ us hl=>match us,hl with | [_,_],_=>rfl
  have F_report:=fun_mk (st:=s_report) l_report c_report k_report
  have b_report:=F_report.binds (ps:=["pump", "back", "many"]) fun _ _ _ _ _ _ us hl=>match us,hl with | [_,_,_],_=>rfl
  have F_Lcell:=fun_mk (st:=s_Lcell) l_Lcell c_Lcell k_Lcell
  have b_Lcell:=F_Lcell.binds (ps:=["_law_script", "_law_k"]) fun _ _ _ _ _ _ us hl=>match us,hl with | [_,_],_=>rfl
  have F_Lmix:=fun_mk (st:=s_Lmix) l_Lmix c_Lmix k_Lmix
  have b_Lmix:=F_Lmix.binds (ps:=["_law_script", "_law_k"]) fun _ _ _ _ _ _ us hl=>match us,hl with | [_,_],_=>rfl
  have F_Lwhole:=fun_mk (st:=s_Lwhole) l_Lwhole c_Lwhole k_Lwhole
  have b_Lwhole:=F_Lwhole.binds (ps:=["_law_found"]) fun _ _ _ _ _ _ us hl=>match us,hl with | [_],_=>rfl
  have F_Lday:=fun_mk (st:=s_Lday) l_Lday c_Lday k_Lday
  have b_Lday:=F_Lday.binds (ps:=["_law_script", "_law_k"]) fun _ _ _ _ _ _ us hl=>match us,hl with | [_,_],_=>rfl
  have F_Lrules:=fun_mk (st:=s_Lrules) l_Lrules c_Lrules k_Lrules
  have b_Lrules:=F_Lrules.binds (ps:=["_law_script", "_law_k"]) fun _ _ _ _ _ _ us hl=>match us,hl with | [_,_],_=>rfl
  have F_Lsetting:=fun_mk (st:=s_Lsetting) l_Lsetting c_Lsetting k_Lsetting
  have b_Lsetting:=F_Lsetting.binds (ps:=["_law_script", "_law_k"]) fun _ _ _ _ _ _ us hl=>match us,hl with | [_,_],_=>rfl
  have F_Ldue:=fun_mk (st:=s_Ldue) l_Ldue c_Ldue k_Ldue
  have b_Ldue:=F_Ldue.binds (ps:=["_law_day_here", "_law_when"]) fun _ _ _ _ _ _ us hl=>match us,hl with | [_,_],_=>rfl
  have F_Ldeed:=fun_mk (st:=s_Ldeed) l_Ldeed c_Ldeed k_Ldeed
  have b_Ldeed:=F_Ldeed.binds (ps:=["_law_script", "_law_k"]) fun _ _ _ _ _ _ us hl=>match us,hl with | [_,_],_=>rfl
  have F_Lnew:=fun_mk (st:=s_Lnew) l_Lnew c_Lnew k_Lnew
  have b_Lnew:=F_Lnew.binds (ps:=["_law_day_here", "_law_rules_here", "_law_setting_here"]) fun _ _ _ _ _ _ us hl=>match us,hl with | [_,_,_],_=>rfl
  have F_Lasked:=fun_mk (st:=s_Lasked) l_Lasked c_Lasked k_Lasked
  have b_Lasked:=F_Lasked.binds (ps:=["_law_pump", "_law_word", "_law_back", "_law_many"]) fun _ _ _ _ _ _ us hl=>match us,hl with | [_,_,_,_],_=>rfl
  have F_Lstart:=fun_mk (st:=s_Lstart) l_Lstart c_Lstart k_Lstart
  have b_Lstart:=F_Lstart.binds (ps:=["_law_script"]) fun _ _ _ _ _ _ us hl=>match us,hl with | [_],_=>rfl
  have F_Lroom:=fun_mk (st:=s_Lroom) l_Lroom c_Lroom k_Lroom
  have b_Lroom:=F_Lroom.binds (ps:=["_law_world"]) fun _ _ _ _ _ _ us hl=>match us,hl with | [_],_=>rfl
  have F_Ltick:=fun_mk (st:=s_Ltick) l_Ltick c_Ltick k_Ltick
  have b_Ltick:=F_Ltick.binds (ps:=["_law_world"]) fun _ _ _ _ _ _ us hl=>match us,hl with | [_],_=>rfl
  have F_Lreport:=fun_mk (st:=s_Lreport) l_Lreport c_Lreport k_Lreport
  have b_Lreport:=F_Lreport.binds (ps:=["_law_world", "_law_back", "_law_many"]) fun _ _ _ _ _ _ us hl=>match us,hl with | [_,_,_],_=>rfl
  have F_Ldone:=fun_mk (st:=s_Ldone) l_Ldone c_Ldone k_Ldone
  have b_Ldone:=F_Ldone.binds (ps:=["_law_world", "_law_word", "_law_back", "_law_many"]) fun _ _ _ _ _ _ us hl=>match us,hl with | [_,_,_,_],_=>rfl
  have F_Lis:=fun_mk (st:=s_Lis) l_Lis c_Lis k_Lis
  have b_Lis:=F_Lis.binds (ps:=["_law_found", "_law_due_here"]) fun _ _ _ _ _ _ us hl=>match us,hl with | [_,_],_=>rfl
  have F_Lsame:=fun_mk (st:=s_Lsame) l_Lsame c_Lsame k_Lsame
  have b_Lsame:=F_Lsame.binds (ps:=["_law_pump", "_law_world"]) fun _ _ _ _ _ _ us hl=>match us,hl with | [_,_],_=>rfl
  have F_counts:=fun_mk (st:=s_counts) l_counts c_counts k_counts
  have b_counts:=F_counts.binds (ps:=["pump"]) fun _ _ _ _ _ _ us hl=>match us,hl with | [_],_=>rfl
  have F_set_counts:=fun_mk (st:=s_set_counts) l_set_counts c_set_counts k_set_counts
  have b_set_counts:=F_set_counts.binds (ps:=["pump", "numbers", "sent"]) fun _ _ _ _ _ _ us hl=>match us,hl with | [_,_,_],_=>rfl
  have F_line_of:=fun_mk (st:=s_line_of) l_line_of c_line_of k_line_of
  have b_line_of:=F_line_of.binds (ps:=["word", "numbers"]) fun _ _ _ _ _ _ us hl=>match us,hl with | [_,_],_=>rfl
  have F_saved:=fun_mk (st:=s_saved) l_saved c_saved k_saved
  have b_saved:=F_saved.binds (ps:=["pump"]) fun _ _ _ _ _ _ us hl=>match us,hl with | [_],_=>rfl
  have F_is_number:=fun_mk (st:=s_is_number) l_is_number c_is_number k_is_number
  have b_is_number:=F_is_number.binds (ps:=["text"]) fun _ _ _ _ _ _ us hl=>match us,hl with | [_],_=>rfl
  have F_numbers_of:=fun_mk (st:=s_numbers_of) l_numbers_of c_numbers_of k_numbers_of
  have b_numbers_of:=F_numbers_of.binds (ps:=["word", "line"]) fun _ _ _ _ _ _ us hl=>match us,hl with | [_,_],_=>rfl
  have F_fits:=fun_mk (st:=s_fits) l_fits c_fits k_fits
  have b_fits:=F_fits.binds (ps:=["word", "numbers", "longest"]) fun _ _ _ _ _ _ us hl=>match us,hl with | [_,_,_],_=>rfl
  have F_rows_of:=fun_mk (st:=s_rows_of) l_rows_of c_rows_of k_rows_of
  have b_rows_of:=F_rows_of.binds (ps:=["lines", "longest"]) fun _ _ _ _ _ _ us hl=>match us,hl with | [_,_],_=>rfl
  have F_loaded:=fun_mk (st:=s_loaded) l_loaded c_loaded k_loaded
  have b_loaded:=F_loaded.binds (ps:=["lines", "day", "rules", "lock", "dose", "hold"]) fun _ _ _ _ _ _ us hl=>match us,hl with | [_,_,_,_,_,_],_=>rfl
  have F_twin:=fun_mk (st:=s_twin) l_twin c_twin k_twin
  have b_twin:=F_twin.binds (ps:=["pump"]) fun _ _ _ _ _ _ us hl=>match us,hl with | [_],_=>rfl
  have F_ahead:=fun_mk (st:=s_ahead) l_ahead c_ahead k_ahead
  have b_ahead:=F_ahead.binds (ps:=["pump", "ticks"]) fun _ _ _ _ _ _ us hl=>match us,hl with | [_,_],_=>rfl
  have F_Llines:=fun_mk (st:=s_Llines) l_Llines c_Llines k_Llines
  have b_Llines:=F_Llines.binds (ps:=["_law_world"]) fun _ _ _ _ _ _ us hl=>match us,hl with | [_],_=>rfl
  have F_law:=fun_mk (st:=s_law) l_law c_law k_law
  have Z_len:=PySem.W.mg_none_of X G z_len
  have Z_zip:=PySem.W.mg_none_of X G z_zip
  have Z_tuple:=PySem.W.mg_none_of X G z_tuple
  have Z_range:=PySem.W.mg_none_of X G z_range
  have Z_max:=PySem.W.mg_none_of X G z_max
  have Z_min:=PySem.W.mg_none_of X G z_min
  have Z_isinstance:=PySem.W.mg_none_of X G z_isinstance
  have Z_int:=PySem.W.mg_none_of X G z_int
  have Z_bool:=PySem.W.mg_none_of X G z_bool
  have Z_str:=PySem.W.mg_none_of X G z_str
  have Z_list:=PySem.W.mg_none_of X G z_list
  have Z_sum:=PySem.W.mg_none_of X G z_sum
  have Z_all:=PySem.W.mg_none_of X G z_all
  have Z_ValueError:=PySem.W.mg_none_of X G z_ValueError
  have Z_enumerate:=PySem.W.mg_none_of X G z_enumerate
  have Z_MOST_DROPS_rates:∃ t,mg "MOST_DROPS_rates"=some (.int 1000000 t):=⟨_,PySem.W.mg_of X G z_MOST_DROPS_rates⟩
  have Z_MOST_TICKS:∃ t,mg "MOST_TICKS"=some (.int 1000000 t):=⟨_,PySem.W.mg_of X G z_MOST_TICKS⟩
  have Z_MOST_DROPS_limits:∃ t,mg "MOST_DROPS_limits"=some (.int 1000000 t):=⟨_,PySem.W.mg_of X G z_MOST_DROPS_limits⟩
  have Z_MOST_RULES:∃ t,mg "MOST_RULES"=some (.int 4 t):=⟨_,PySem.W.mg_of X G z_MOST_RULES⟩
  have Z_LONGEST_WINDOW:∃ t,mg "LONGEST_WINDOW"=some (.int 1000 t):=⟨_,PySem.W.mg_of X G z_LONGEST_WINDOW⟩
  have Z_MOST:∃ t,mg "MOST"=some (.int 1000000 t):=⟨_,PySem.W.mg_of X G z_MOST⟩
  have Z_MOST_FIGURES:∃ t,mg "MOST_FIGURES"=some (.int 15 t):=⟨_,PySem.W.mg_of X G z_MOST_FIGURES⟩
  have Z_FIGURES:∃ t,mg "FIGURES"=some (.str "0123456789" t):=⟨_,PySem.W.mg_of X G z_FIGURES⟩
  refine ⟨PySem.W.fnOf "law" "law" (defArgs s_law) (defBody s_law) (defScope s_law) .none kV_law dc_law pm_law an_law cd_law ct_law,fun s v=>.of_eq rfl,fun base _ _=>?_⟩
  have ZL:ZL mg:=⟨Z_len,Z_range,Z_max,Z_isinstance,Z_int,Z_bool,Z_str,Z_list,Z_tuple,Z_sum,Z_all⟩
  have ZC:ZC mg:=⟨Z_MOST_DROPS_rates,Z_MOST_TICKS,Z_len,Z_zip,Z_tuple⟩
  have ZR:ZR K mg:=⟨Z_MOST_RULES,Z_LONGEST_WINDOW,Z_MOST_DROPS_limits,Z_MOST,Z_len,Z_list,Z_max,Z_min,Z_sum⟩
  have ZB:ZCB K mg C_BadSetting:=⟨x_BadSetting,PySem.W.mg_of X G a_BadSetting⟩
  have ZD:ZD K mg C_BadSetting:=⟨ZB,ZC⟩
  have TD:TD K C_Day:=⟨cl_Day,n_Day_ticks,n_Day_parts,n_Day_sums⟩
  have TP:TP K C_Pump:=⟨cl_Pump,n_Pump_day,n_Pump_rules,n_Pump_lock,n_Pump_dose,n_Pump_hold,n_Pump_now,n_Pump_running,n_Pump_content,n_Pump_waiting,n_Pump_asked,n_Pump_missed,n_Pump_total,n_Pump_free,n_Pump_sent⟩
  have ZA:ZA K mg C_DoseError C_BadSetting C_Locked C_NotThere C_BadSave:=⟨Z_isinstance,Z_ValueError,PySem.W.mg_of X G a_DoseError,PySem.W.mg_of X G a_BadSetting,PySem.W.mg_of X G a_Locked,PySem.W.mg_of X G a_NotThere,PySem.W.mg_of X G a_BadSave,t_DoseError,
    ⟨M_BadSetting,E_BadSetting,kit_BadSetting_BadSetting,kit_BadSetting_Locked,kit_BadSetting_NotThere,kit_BadSetting_v,kit_BadSetting_s⟩,⟨M_Locked,E_Locked,kit_Locked_BadSetting,kit_Locked_Locked,kit_Locked_NotThere,kit_Locked_v,kit_Locked_s⟩,
    ⟨M_NotThere,E_NotThere,kit_NotThere_BadSetting,kit_NotThere_Locked,kit_NotThere_NotThere,kit_NotThere_v,kit_NotThere_s⟩⟩
  have ZK:ZLk K mg C_Locked:=⟨x_Locked,PySem.W.mg_of X G a_Locked⟩
  have ZN:ZNt K mg C_NotThere:=⟨x_NotThere,PySem.W.mg_of X G a_NotThere,Z_len⟩
  have O1:Fn l.prog w K mg base (CXE l.prog w) 1 "check_between" ["what", "number", "least", "most"] (spCB C_BadSetting) f_check_between _:=⟨ok_check_between F_check_between ZB,PySem.W.mg_of X G a_check_between,k_check_between,b_check_between⟩
  have O2:Fn l.prog w K mg base CX0 1 "drops_by" ["rate", "ticks"] (spBy K) f_drops_by _:=⟨ok_drops_by F_drops_by,PySem.W.mg_of X G a_drops_by,k_drops_by,b_drops_by⟩
  have O3:Fn l.prog w K mg base CX0 2 "drops_at" ["rate", "tick"] (spAt K) f_drops_at _:=⟨ok_drops_at F_drops_at O2,PySem.W.mg_of X G a_drops_at,k_drops_at,b_drops_at⟩
  have O4:Fn l.prog w K mg base (CXE l.prog w) 2 "check_part" ["ticks", "least", "part"] (spCP K C_BadSetting) f_check_part _:=⟨ok_check_part F_check_part ZC O1,PySem.W.mg_of X G a_check_part,k_check_part,b_check_part⟩
  have O5:Fn l.prog w K mg base (CXE l.prog w) 3 "check_day" ["ticks", "parts"] (spCD K C_BadSetting) f_check_day _:=⟨ok_check_day F_check_day ZD O1 O4,PySem.W.mg_of X G a_check_day,k_check_day,b_check_day⟩
  have O6:Fn l.prog w K mg base CX0 2 "drops_within" ["part", "tick"] (spDW K) f_drops_within _:=⟨ok_drops_within F_drops_within O2,PySem.W.mg_of X G a_drops_within,k_drops_within,b_drops_within⟩
  have O7:Fn l.prog w K mg base CX0 3 "sums_ahead" ["ticks", "parts"] (spSA K) f_sums_ahead _:=⟨ok_sums_ahead F_sums_ahead ZC O6,PySem.W.mg_of X G a_sums_ahead,k_sums_ahead,b_sums_ahead⟩
  have O8:Fn l.prog w K mg base CX0 1 "place_of_part" ["parts", "tick"] (spPl K) f_place_of_part _:=⟨ok_place_of_part F_place_of_part ZC,PySem.W.mg_of X G a_place_of_part,k_place_of_part,b_place_of_part⟩
  have OD:Mc l.prog w K mg base (CXE l.prog w) 4 "Day" C_Day ["self", "ticks", "parts"] (spDayI K C_Day C_BadSetting) f_Day_init _:=⟨ok_Day_init F_Day_init TD ZC O5 O7,PySem.W.mg_of X G a_Day,⟨mk_Day,a_Day_init,i_Day_init,kc_Day⟩,b_Day_init⟩
  have OM1:Mt l.prog w K mg base CX0 3 "due" C_Day ["self", "tick"] (spDue K C_Day) f_Day_due _:=⟨ok_Day_due F_Day_due TD O8 O3,cl_Day,⟨a_Day_due,i_Day_due,k_Day_due⟩,b_Day_due⟩
  have R1:Fn l.prog w K mg base (CXE l.prog w) 2 "checked_rules" ["rules"] (spCR K C_BadSetting) f_checked_rules _:=⟨ok_checked_rules F_checked_rules ZR O1,PySem.W.mg_of X G a_checked_rules,k_checked_rules,b_checked_rules⟩
  have R2:Fn l.prog w K mg base CX0 1 "longest_window" ["rules"] (spLW K) f_longest_window _:=⟨ok_longest_window F_longest_window ZR,PySem.W.mg_of X G a_longest_window,k_longest_window,b_longest_window⟩
  have R3:Fn l.prog w K mg base CX0 1 "sum_of_last" ["numbers", "many"] (spSL K) f_sum_of_last _:=⟨ok_sum_of_last F_sum_of_last ZR,PySem.W.mg_of X G a_sum_of_last,k_sum_of_last,b_sum_of_last⟩
  have R4:Fn l.prog w K mg base CX0 2 "room_left" ["rules", "sent"] (spRL K) f_room_left _:=⟨ok_room_left F_room_left ZR R3,PySem.W.mg_of X G a_room_left,k_room_left,b_room_left⟩
  have OP:Mc l.prog w K mg base (CXE l.prog w) 3 "Pump" C_Pump ["self", "day", "rules", "lock", "dose", "hold"] (spPumpI K C_Pump C_Day C_BadSetting) f_Pump_init _:=⟨ok_Pump_init F_Pump_init TP ZR O1 R1,PySem.W.mg_of X G a_Pump,⟨mk_Pump,a_Pump_init,i_Pump_init,kc_Pump⟩,b_Pump_init⟩
  have M1:Mt l.prog w K mg base CX0 1 "time" C_Pump ["self"] (spTime K C_Pump C_Day) f_Pump_time _:=⟨ok_Pump_time F_Pump_time TP,cl_Pump,⟨a_Pump_time,i_Pump_time,k_Pump_time⟩,b_Pump_time⟩
  have M2:Mt l.prog w K mg base CX0 1 "is_running" C_Pump ["self"] (spRun K C_Pump C_Day) f_Pump_is_running _:=⟨ok_Pump_is_running F_Pump_is_running TP,cl_Pump,⟨a_Pump_is_running,i_Pump_is_running,k_Pump_is_running⟩,b_Pump_is_running⟩
  have M3:Mt l.prog w K mg base CX0 1 "state" C_Pump ["self"] (spState K C_Pump C_Day) f_Pump_state _:=⟨ok_Pump_state F_Pump_state TP,cl_Pump,⟨a_Pump_state,i_Pump_state,k_Pump_state⟩,b_Pump_state⟩
  have R5:Fn l.prog w K mg base CX0 3 "room" ["pump"] (spRoom K C_Pump C_Day) f_room _:=⟨ok_room F_room TP R4,PySem.W.mg_of X G a_room,k_room,b_room⟩
  have R6:Fn l.prog w K mg base CX0 2 "send" ["pump", "many"] (spSend K C_Pump C_Day) f_send _:=⟨ok_send F_send TP ZR R2,PySem.W.mg_of X G a_send,k_send,b_send⟩
  have R7:Fn l.prog w K mg base CX0 1 "miss_above_hold" ["pump"] (spMiss K C_Pump C_Day) f_miss_above_hold _:=⟨ok_miss_above_hold F_miss_above_hold TP ZR,PySem.W.mg_of X G a_miss_above_hold,k_miss_above_hold,b_miss_above_hold⟩
  have R8:Fn l.prog w K mg base CX0 4 "tick" ["pump"] (spTick K C_Pump C_Day) f_tick _:=⟨ok_tick F_tick TP ZR R5 R6 R7 OM1,PySem.W.mg_of X G a_tick,k_tick,b_tick⟩
  have P1:Fn l.prog w K mg base CX0 1 "_law_cell" ["_law_script", "_law_k"] (spCell K) f_Lcell _:=⟨ok_Lcell F_Lcell ZL,PySem.W.mg_of X G a_Lcell,k_Lcell,b_Lcell⟩
  have P2:Fn l.prog w K mg base CX0 2 "_law_mix" ["_law_script", "_law_k"] (spMix K) f_Lmix _:=⟨ok_Lmix F_Lmix P1,PySem.W.mg_of X G a_Lmix,k_Lmix,b_Lmix⟩
  have P3:Fn l.prog w K mg base CX0 1 "_law_whole" ["_law_found"] spWhole f_Lwhole _:=⟨ok_Lwhole F_Lwhole ZL kit_ib,PySem.W.mg_of X G a_Lwhole,k_Lwhole,b_Lwhole⟩
  have D1:Fn l.prog w K mg base CX0 1 "start" ["pump"] (spStart K C_Pump C_Day) f_start _:=⟨ok_start F_start TP,PySem.W.mg_of X G a_start,k_start,b_start⟩
  have D2:Fn l.prog w K mg base CX0 1 "stop" ["pump"] (spStop K C_Pump C_Day) f_stop _:=⟨ok_stop F_stop TP,PySem.W.mg_of X G a_stop,k_stop,b_stop⟩
  have D3:Fn l.prog w K mg base (CXE l.prog w) 2 "fill" ["pump", "many"] (spFill K C_Pump C_Day C_BadSetting) f_fill _:=⟨ok_fill F_fill TP ZR O1,PySem.W.mg_of X G a_fill,k_fill,b_fill⟩
  have D4:Fn l.prog w K mg base (CXE l.prog w) 1 "press" ["pump", "many"] (spPress K C_Pump C_Day C_Locked) f_press _:=⟨ok_press F_press TP ZK,PySem.W.mg_of X G a_press,k_press,b_press⟩
  have D5:Fn l.prog w K mg base (CXE l.prog w) 1 "report" ["pump", "back", "many"] (spReport K C_Pump C_Day C_NotThere) f_report _:=⟨ok_report F_report TP ZN,PySem.W.mg_of X G a_report,k_report,b_report⟩
  have L1:Fn l.prog w K mg base CX0 3 "_law_rules" ["_law_script", "_law_k"] (spLRules K) f_Lrules _:=⟨ok_Lrules F_Lrules ZL P2,PySem.W.mg_of X G a_Lrules,k_Lrules,b_Lrules⟩
  have L2:Fn l.prog w K mg base CX0 3 "_law_setting" ["_law_script", "_law_k"] (spSett K) f_Lsetting _:=⟨ok_Lsetting F_Lsetting P2,PySem.W.mg_of X G a_Lsetting,k_Lsetting,b_Lsetting⟩
  have L3:Fn l.prog w K mg base CX0 3 "_law_deed" ["_law_script", "_law_k"] (spDeed K) f_Ldeed _:=⟨ok_Ldeed F_Ldeed P2,PySem.W.mg_of X G a_Ldeed,k_Ldeed,b_Ldeed⟩
  have L4:Fn l.prog w K mg base CX0 3 "_law_day" ["_law_script", "_law_k"] (spDay K) f_Lday _:=⟨ok_Lday F_Lday ZL P2,PySem.W.mg_of X G a_Lday,k_Lday,b_Lday⟩
  have L5:Fn l.prog w K mg base CX0 1 "_law_due" ["_law_day_here", "_law_when"] (spLdue K) f_Ldue _:=⟨ok_Ldue F_Ldue ZL,PySem.W.mg_of X G a_Ldue,k_Ldue,b_Ldue⟩
  have L6:Fn l.prog w K mg base CX0 1 "_law_new" ["_law_day_here", "_law_rules_here", "_law_setting_here"] (spNew K) f_Lnew _:=⟨ok_Lnew F_Lnew,PySem.W.mg_of X G a_Lnew,k_Lnew,b_Lnew⟩
  have L7:Fn l.prog w K mg base CX0 6 "_law_start" ["_law_script"] (spLStart K C_Pump C_Day) f_Lstart _:=⟨ok_Lstart F_Lstart ZL L4 L1 L2 OD OP L6 P2 D1 D3,PySem.W.mg_of X G a_Lstart,k_Lstart,b_Lstart⟩
  have L8:Fn l.prog w K mg base CX0 6 "_law_asked" ["_law_pump", "_law_word", "_law_back", "_law_many"] (spAsked K C_Pump C_Day) f_Lasked _:=⟨ok_Lasked F_Lasked ZA R8 D5 D3 D4 D1 D2,PySem.W.mg_of X G a_Lasked,k_Lasked,b_Lasked⟩
  have ZM:ZM mg:=⟨ZL,Z_min⟩
  have N1:Fn l.prog w K mg base CX0 1 "_law_room" ["_law_world"] (spLRoom K) f_Lroom _:=⟨ok_Lroom F_Lroom ZM,PySem.W.mg_of X G a_Lroom,k_Lroom,b_Lroom⟩
  have N2:Fn l.prog w K mg base CX0 2 "_law_tick" ["_law_world"] (spLTick K) f_Ltick _:=⟨ok_Ltick F_Ltick ZM L5 N1,PySem.W.mg_of X G a_Ltick,k_Ltick,b_Ltick⟩
  have N3:Fn l.prog w K mg base CX0 1 "_law_report" ["_law_world", "_law_back", "_law_many"] (spLRep K) f_Lreport _:=⟨ok_Lreport F_Lreport ZM,PySem.W.mg_of X G a_Lreport,k_Lreport,b_Lreport⟩
  have N4:Fn l.prog w K mg base CX0 3 "_law_done" ["_law_world", "_law_word", "_law_back", "_law_many"] (spLDone K) f_Ldone _:=⟨ok_Ldone F_Ldone N2 N3,PySem.W.mg_of X G a_Ldone,k_Ldone,b_Ldone⟩
  have N5:Fn l.prog w K mg base CX0 1 "_law_is" ["_law_found", "_law_due_here"] (spIs) f_Lis _:=⟨ok_Lis F_Lis ZL kit_ib kit_sb kit_nb,PySem.W.mg_of X G a_Lis,k_Lis,b_Lis⟩
  have N6:Fn l.prog w K mg base CX0 4 "_law_same" ["_law_pump", "_law_world"] (spSame K C_Pump C_Day) f_Lsame _:=⟨ok_Lsame F_Lsame ZM TP M3 M1 M2 P3 N5 R5 N1,PySem.W.mg_of X G a_Lsame,k_Lsame,b_Lsame⟩
  have szW:its_WORDS.size≤sizeLine:=by
    have h:=v_WORDS.length
    rw [List.length_map] at h
    rw [show its_WORDS.size=its_WORDS.toList.length by simp,← h,sizeLine_eq]
    decide
  have ZT:ZT K mg A_WORDS:=⟨Z_str,Z_zip,Z_all,Z_len,Z_int,Z_list,Z_enumerate,Z_FIGURES,Z_MOST_FIGURES,PySem.W.mg_of X G a_WORDS,fun H=>.inr ⟨_,its_WORDS,nn_WORDS,l_WORDS,rfl,rfl,szW,v_WORDS⟩⟩
  have S1:Fn l.prog w K mg base CX0 1 "counts" ["pump"] (spCounts K C_Pump C_Day) f_counts _:=⟨ok_counts F_counts TP,PySem.W.mg_of X G a_counts,k_counts,b_counts⟩
  have S2:Fn l.prog w K mg base CX0 1 "line_of" ["word", "numbers"] (spLine K) f_line_of _:=⟨ok_line_of F_line_of ZT,PySem.W.mg_of X G a_line_of,k_line_of,b_line_of⟩
  have S3:Fn l.prog w K mg base CX0 2 "saved" ["pump"] (spSaved K C_Pump C_Day) f_saved _:=⟨ok_saved F_saved TP ZT S1 S2,PySem.W.mg_of X G a_saved,k_saved,b_saved⟩
  have S4:Fn l.prog w K mg base CX0 1 "is_number" ["text"] (spIsNum) f_is_number _:=⟨ok_is_number F_is_number ZT,PySem.W.mg_of X G a_is_number,k_is_number,b_is_number⟩
  have S5:Fn l.prog w K mg base CX0 2 "numbers_of" ["word", "line"] (spNums K) f_numbers_of _:=⟨ok_numbers_of F_numbers_of ZT S4,PySem.W.mg_of X G a_numbers_of,k_numbers_of,b_numbers_of⟩
  have S6:Fn l.prog w K mg base CX0 1 "fits" ["word", "numbers", "longest"] (spFits K) f_fits _:=⟨ok_fits F_fits ZT,PySem.W.mg_of X G a_fits,k_fits,b_fits⟩
  have S7:Fn l.prog w K mg base CX0 3 "rows_of" ["lines", "longest"] (spRows K) f_rows_of _:=⟨ok_rows_of F_rows_of ZT S5 S6,PySem.W.mg_of X G a_rows_of,k_rows_of,b_rows_of⟩
  have S8:Fn l.prog w K mg base CX0 1 "set_counts" ["pump", "numbers", "sent"] (spSetC K C_Pump C_Day) f_set_counts _:=⟨ok_set_counts F_set_counts TP ZT,PySem.W.mg_of X G a_set_counts,k_set_counts,b_set_counts⟩
  have S9:Fn l.prog w K mg base CX0 5 "loaded" ["lines", "day", "rules", "lock", "dose", "hold"] (spLoaded K C_Pump C_Day) f_loaded _:=⟨ok_loaded F_loaded TP ZT OP R2 S7 S8,PySem.W.mg_of X G a_loaded,k_loaded,b_loaded⟩
  have S10:Fn l.prog w K mg base CX0 5 "twin" ["pump"] (spTwin K C_Pump C_Day) f_twin _:=⟨ok_twin F_twin TP OP S1 S8,PySem.W.mg_of X G a_twin,k_twin,b_twin⟩
  have S11:Fn l.prog w K mg base CX0 6 "ahead" ["pump", "ticks"] (spAhead K C_Pump C_Day) f_ahead _:=⟨ok_ahead F_ahead ZL S10 R8,PySem.W.mg_of X G a_ahead,k_ahead,b_ahead⟩
  have ZN2:Sp.ZN mg:=⟨Z_str,Z_int,Z_max,Z_len⟩
  have S12:Fn l.prog w K mg base CX0 1 "_law_lines" ["_law_world"] (spLines K) f_Llines _:=⟨ok_Llines F_Llines ZN2,PySem.W.mg_of X G a_Llines,k_Llines,b_Llines⟩
  exact ok_law30 F_law ZL P2 L7 L3 L2 OD S3 S9 L8 P3 N4 N5 N6 S12 S11 R8 N2
theorem walk {l:PySem.W.OpenLaw}{q:Program}{loose:List Str}{XP:(Str→Option Value)→Heap→Prop}{YP:World→Heap→Prop}{d:DefRec}{K:Params→PySem.W.Frag} (hn:l.most=some 63) (hdf:d.params.defaults = [])
    (hY:∀ (w:World) (h:Heap),YP w h→(K w.params).In h)
    (F:∀ (w:World) (mg:Str→Option Value) (fa:Addr) (h:Heap),(K w.params).In h→h.Ns mainGlobals mg→mg d.name=some (.ref fa) →
      ∃ fd:FuncData,(∀ (s:Shared) (u:Value),BindsTo s fd ⟨[u],[]⟩ [("_law_script",u)])∧∀ base:Heap,(K w.params).In base→base.Ns mainGlobals mg→FnOk l.prog w (K w.params) mg base CX0 8 fa fd ["_law_script"] (spLaw (K w.params))) :
    PySem.W.WalkO q loose XP YP l.row.toRowW d [] (fun f vs=>PySem.call f vs):=
  L2.walk_of (n:=63) (k:=8) (x := "_law_script") (CX:=fun _=>CX0) (sp:=fun w=>spLaw (K w.params)) hn s!"d" hdf ⟨rfl,by decide,by decide⟩ hY F (fun _ _ a ns hl _ hS=>⟨a,ns,rfl,hS,hl,fun _=>rfl⟩) fun _ _ _ _ _ z=>z
end Sp
open PySem PySem.W PyProof.Rows
namespace PySem.W.Fast
theorem te16027324761949050823:True:=⟨⟩
theorem te14530674121482514532:True:=⟨⟩
theorem te2352781155839468561:True:=⟨⟩
theorem te4145141854578952668:True:=⟨⟩
theorem te16266161719022230709:True:=⟨⟩
theorem te2848562475695944043:True:=⟨⟩
theorem te17915975040481396035:True:=⟨⟩
theorem te10819723835769650271:True:=⟨⟩
theorem te11928864467358523299:True:=⟨⟩
theorem te8831835763770759639:True:=⟨⟩
theorem te13665010920769509854:True:=⟨⟩
theorem te10444466706928850969:True:=⟨⟩
theorem te7218457137341327269:True:=⟨⟩
theorem te15189404638890124185:True:=⟨⟩
theorem te7950454209611176356:True:=⟨⟩
theorem te17852742044345508486:True:=⟨⟩
theorem te8905164619636486525:True:=⟨⟩
theorem te10837852066373106396:True:=⟨⟩
theorem te15621685406086867801:True:=⟨⟩
theorem te5910303086140295645:True:=⟨⟩
theorem te13145564629142644619:True:=⟨⟩
theorem te15099617838457783009:True:=⟨⟩
theorem te9956107945494510598:True:=⟨⟩
theorem te18200128932786051444:True:=⟨⟩
theorem te17794506564244796586:True:=⟨⟩
theorem te2359886091520080604:True:=⟨⟩
theorem te1221977223864997191:True:=⟨⟩
theorem te13054644937080718928:True:=⟨⟩
theorem te9738713458123572162:True:=⟨⟩
theorem te4717224906248832460:True:=⟨⟩
theorem te6174735440539394690:True:=⟨⟩
theorem te10594070200205763908:True:=⟨⟩
theorem te12863511741277344402:True:=⟨⟩
theorem te6461724713756013454:True:=⟨⟩
theorem te12122169598390398713:True:=⟨⟩
theorem te14757846980127745246:True:=⟨⟩
theorem te15834605429687833670:True:=⟨⟩
theorem te7199012176084465915:True:=⟨⟩
theorem te12841812834260268951:True:=⟨⟩
theorem te16503169679213838090:True:=⟨⟩
theorem te11569913944317219824:True:=⟨⟩
theorem te16353235550050609232:True:=⟨⟩
theorem te2449090247302213682:True:=⟨⟩
theorem te3297248133628329217:True:=⟨⟩
theorem te11599828770149498084:True:=⟨⟩
theorem te17354934453347683250:True:=⟨⟩
theorem te9634216930844939460:True:=⟨⟩
theorem te12710590218603533096:True:=⟨⟩
theorem te6090955745140255307:True:=⟨⟩
theorem te9994881671296837196:True:=⟨⟩
theorem te17280783756415581975:True:=⟨⟩
theorem te16336898735131392270:True:=⟨⟩
theorem te11187816346358101117:True:=⟨⟩
theorem te4682273416634127761:True:=⟨⟩
theorem te6762697004682510195:True:=⟨⟩
theorem te5500862459906106756:True:=⟨⟩
theorem te11665454347612568475:True:=⟨⟩
theorem te3228683178372675565:True:=⟨⟩
theorem te6507931293587965415:True:=⟨⟩
theorem te8525496538193486818:True:=⟨⟩
theorem te10711968360482897224:True:=⟨⟩
theorem te7973811310456130926:True:=⟨⟩
theorem te14908305990965494296:True:=⟨⟩
theorem te2347176178126404734:True:=⟨⟩
theorem te467268881269864879:True:=⟨⟩
theorem te12000194584394893137:True:=⟨⟩
theorem te10914751379100123600:True:=⟨⟩
theorem te10946735152453284027:True:=⟨⟩
theorem te15398701311669189773:True:=⟨⟩
theorem te16204052028286146004:True:=⟨⟩
theorem te9989898904802525167:True:=⟨⟩
theorem te9989657600295256154:True:=⟨⟩
theorem te9982370728004323910:True:=⟨⟩
theorem te9974646722609341665:True:=⟨⟩
theorem te9875927834979668467:True:=⟨⟩
theorem te9812859478327399340:True:=⟨⟩
theorem te9798116764791634913:True:=⟨⟩
theorem te9684356695502122634:True:=⟨⟩
theorem te9669184919720281964:True:=⟨⟩
theorem te954800588089330055:True:=⟨⟩
theorem te9542970369750258169:True:=⟨⟩
theorem te9490175955870089336:True:=⟨⟩
theorem te948625421651889587:True:=⟨⟩
theorem te9392398794348439530:True:=⟨⟩
theorem te9259514514197533891:True:=⟨⟩
theorem te9204498207813499995:True:=⟨⟩
theorem te9171885202150438287:True:=⟨⟩
theorem te9169372533230400657:True:=⟨⟩
theorem te9089030463922072461:True:=⟨⟩
theorem te9010256405828571629:True:=⟨⟩
theorem te8916970344601802220:True:=⟨⟩
theorem te8914252105127281059:True:=⟨⟩
theorem te8883489861226687009:True:=⟨⟩
theorem te8882237682185830327:True:=⟨⟩
theorem te887291041190991050:True:=⟨⟩
theorem te8851352329511339541:True:=⟨⟩
theorem te8825504521022190899:True:=⟨⟩
theorem te8825486498621670114:True:=⟨⟩
theorem te8805693358992808622:True:=⟨⟩
theorem te8785171318140451566:True:=⟨⟩
theorem te8697083255184446119:True:=⟨⟩
theorem te8656960677920069938:True:=⟨⟩
theorem te8632510592285901937:True:=⟨⟩
theorem te8592432595661282653:True:=⟨⟩
theorem te8554655316189566439:True:=⟨⟩
theorem te8539836866384255345:True:=⟨⟩
theorem te8529762038524688066:True:=⟨⟩
theorem te8498618013371140406:True:=⟨⟩
theorem te8488821308234106775:True:=⟨⟩
theorem te8451621804032118684:True:=⟨⟩
theorem te839538219929050594:True:=⟨⟩
theorem te836246046131117639:True:=⟨⟩
theorem te8337935363480048598:True:=⟨⟩
theorem te824899539774390375:True:=⟨⟩
theorem te8146398371674737852:True:=⟨⟩
theorem te8028786227899236650:True:=⟨⟩
theorem te7994884246153633221:True:=⟨⟩
theorem te7981233163724642364:True:=⟨⟩
theorem te797192524677858800:True:=⟨⟩
theorem te7885791032918567809:True:=⟨⟩
theorem te7877873402562856420:True:=⟨⟩
theorem te7867979174915946336:True:=⟨⟩
theorem te782699002141115248:True:=⟨⟩
theorem te7809987844272718071:True:=⟨⟩
theorem te7782715896539711433:True:=⟨⟩
theorem te7777200666785640678:True:=⟨⟩
theorem te7651600728441131204:True:=⟨⟩
theorem te7538151928964224230:True:=⟨⟩
theorem te7514923735169186494:True:=⟨⟩
theorem te7509491759207554119:True:=⟨⟩
theorem te7488470789007503160:True:=⟨⟩
theorem te7411064141529300480:True:=⟨⟩
theorem te738175637508009004:True:=⟨⟩
theorem te733906094167869457:True:=⟨⟩
theorem te7291100082854664455:True:=⟨⟩
theorem te7209215076274248635:True:=⟨⟩
theorem te7186187141939131007:True:=⟨⟩
theorem te7168925882782784522:True:=⟨⟩
theorem te7113923371784124871:True:=⟨⟩
theorem te7024969873255688061:True:=⟨⟩
theorem te6984626700973634318:True:=⟨⟩
theorem te6960977441041206976:True:=⟨⟩
theorem te6853322509348746630:True:=⟨⟩
theorem te6819362990481963941:True:=⟨⟩
theorem te6819278515065384081:True:=⟨⟩
theorem te6802626963551829980:True:=⟨⟩
theorem te6747469363475596731:True:=⟨⟩
theorem te6668681850466682438:True:=⟨⟩
theorem te6665884211919387730:True:=⟨⟩
theorem te66575155522195817:True:=⟨⟩
theorem te6594494729468459464:True:=⟨⟩
theorem te6584766460504857843:True:=⟨⟩
theorem te6561855152274324845:True:=⟨⟩
theorem te6548604501540589400:True:=⟨⟩
theorem te6501934519299334736:True:=⟨⟩
theorem te6495627529614819344:True:=⟨⟩
theorem te6448082472383878000:True:=⟨⟩
theorem te6442201397114675718:True:=⟨⟩
theorem te6437203284395189360:True:=⟨⟩
theorem te6353026527752375082:True:=⟨⟩
theorem te6320795351587431282:True:=⟨⟩
theorem te6262751512829851591:True:=⟨⟩
theorem te6256299814859583482:True:=⟨⟩
theorem te6183616515252450374:True:=⟨⟩
theorem te6163905821320536355:True:=⟨⟩
theorem te6145756972677977016:True:=⟨⟩
theorem te6142942515333724707:True:=⟨⟩
theorem te6112861010531541674:True:=⟨⟩
theorem te6048150538639981081:True:=⟨⟩
theorem te6043889469207347290:True:=⟨⟩
theorem te6027270382014538585:True:=⟨⟩
theorem te5985271204723703275:True:=⟨⟩
theorem te5871945734501932953:True:=⟨⟩
theorem te5850633997101106972:True:=⟨⟩
theorem te5820090608198500246:True:=⟨⟩
theorem te5792582118599844053:True:=⟨⟩
theorem te5770691940091402959:True:=⟨⟩
theorem te5735905808294081544:True:=⟨⟩
theorem te5714230904931264607:True:=⟨⟩
theorem te5654183368798096821:True:=⟨⟩
theorem te5596676477560682418:True:=⟨⟩
theorem te5588762078699938053:True:=⟨⟩
theorem te5564123478077052729:True:=⟨⟩
theorem te5447226925121998763:True:=⟨⟩
theorem te5443189801778336260:True:=⟨⟩
theorem te5367081380650764071:True:=⟨⟩
theorem te5334063919865695802:True:=⟨⟩
theorem te5327084707673127136:True:=⟨⟩
theorem te5312420472319231026:True:=⟨⟩
theorem te5304667151454893952:True:=⟨⟩
theorem te5286345247863327784:True:=⟨⟩
theorem te502445757482071894:True:=⟨⟩
theorem te501452310635785347:True:=⟨⟩
theorem te4996641245286230230:True:=⟨⟩
theorem te4995790285644064286:True:=⟨⟩
theorem te4944040177957833388:True:=⟨⟩
theorem te4923376381183552805:True:=⟨⟩
theorem te485783837970966435:True:=⟨⟩
theorem te4832596298146748498:True:=⟨⟩
theorem te4803878997478679187:True:=⟨⟩
theorem te4689781962424578795:True:=⟨⟩
theorem te4688751776789531889:True:=⟨⟩
theorem te4672909824165490394:True:=⟨⟩
theorem te4635605655396285479:True:=⟨⟩
theorem te4624024115029211302:True:=⟨⟩
theorem te4545686460104616300:True:=⟨⟩
theorem te4517793184286150514:True:=⟨⟩
theorem te4500903988184649250:True:=⟨⟩
theorem te4438240958862209759:True:=⟨⟩
theorem te4345796933469949157:True:=⟨⟩
theorem te4276614648865403737:True:=⟨⟩
theorem te4268405480889492343:True:=⟨⟩
theorem te4260392050730760592:True:=⟨⟩
theorem te4154297558891033645:True:=⟨⟩
theorem te4149544340851616103:True:=⟨⟩
theorem te4114499933078356313:True:=⟨⟩
theorem te4072849375390905788:True:=⟨⟩
theorem te4026325344871170995:True:=⟨⟩
theorem te4006678364151059492:True:=⟨⟩
theorem te3838070436295766019:True:=⟨⟩
theorem te383776231245594803:True:=⟨⟩
theorem te3815764356796912677:True:=⟨⟩
theorem te3809685229760934338:True:=⟨⟩
theorem te3786202447182210123:True:=⟨⟩
theorem te3740832154040463830:True:=⟨⟩
theorem te3721018943773409665:True:=⟨⟩
theorem te3436895049663930884:True:=⟨⟩
theorem te3297727990956706296:True:=⟨⟩
theorem te3280619469471932335:True:=⟨⟩
theorem te3219272816824013097:True:=⟨⟩
theorem te3202377159687270268:True:=⟨⟩
theorem te307998606006792811:True:=⟨⟩
theorem te3017226547757507986:True:=⟨⟩
theorem te297330986270223387:True:=⟨⟩
theorem te2926063730316144460:True:=⟨⟩
theorem te2876544918927084545:True:=⟨⟩
theorem te2852910082688469965:True:=⟨⟩
theorem te2816592875610531738:True:=⟨⟩
theorem te2795228261166464751:True:=⟨⟩
theorem te2789086629883626793:True:=⟨⟩
theorem te2666921366441508394:True:=⟨⟩
theorem te2662745537119934827:True:=⟨⟩
theorem te2638098303832295676:True:=⟨⟩
theorem te2613645967583760609:True:=⟨⟩
theorem te259088272985024401:True:=⟨⟩
theorem te2552968846653555066:True:=⟨⟩
theorem te2521900384707583345:True:=⟨⟩
theorem te2461478749456551320:True:=⟨⟩
theorem te2376562906329405844:True:=⟨⟩
theorem te2317095677386557861:True:=⟨⟩
theorem te226643526191659813:True:=⟨⟩
theorem te2190272429251075753:True:=⟨⟩
theorem te2093711163695287825:True:=⟨⟩
theorem te1984105568663030653:True:=⟨⟩
theorem te197952872984316176:True:=⟨⟩
theorem te1973805658635305772:True:=⟨⟩
theorem te1954652957919042653:True:=⟨⟩
theorem te1858937416433755557:True:=⟨⟩
theorem te18372764220975255996:True:=⟨⟩
theorem te1835864423571410586:True:=⟨⟩
theorem te18346909920929667505:True:=⟨⟩
theorem te1829330163742431922:True:=⟨⟩
theorem te18237854528711056651:True:=⟨⟩
theorem te18108973681765273929:True:=⟨⟩
theorem te18099857969072406519:True:=⟨⟩
theorem te18087798004855685307:True:=⟨⟩
theorem te18068389774579740931:True:=⟨⟩
theorem te18040867486736172896:True:=⟨⟩
theorem te18038774749879035541:True:=⟨⟩
theorem te18021999810526789079:True:=⟨⟩
theorem te1795325199310715571:True:=⟨⟩
theorem te17786133596035108979:True:=⟨⟩
theorem te17746206002429870788:True:=⟨⟩
theorem te176644124727813740:True:=⟨⟩
theorem te17609962421576192962:True:=⟨⟩
theorem te17602290173397222819:True:=⟨⟩
theorem te17529551511025710859:True:=⟨⟩
theorem te17527464717834170078:True:=⟨⟩
theorem te1745734278583334111:True:=⟨⟩
theorem te17338631574827719828:True:=⟨⟩
theorem te17238261491204338630:True:=⟨⟩
theorem te17169288345141517696:True:=⟨⟩
theorem te17141003597837924204:True:=⟨⟩
theorem te17019375605606018704:True:=⟨⟩
theorem te1700970308604536329:True:=⟨⟩
theorem te16995389380377095955:True:=⟨⟩
theorem te16979213901255459592:True:=⟨⟩
theorem te16965082625358463271:True:=⟨⟩
theorem te16927108204415555560:True:=⟨⟩
theorem te16906731352978514270:True:=⟨⟩
theorem te16865494777360937611:True:=⟨⟩
theorem te16832435091996431894:True:=⟨⟩
theorem te16802110410769891543:True:=⟨⟩
theorem te16800492767050578875:True:=⟨⟩
theorem te16774224363484339538:True:=⟨⟩
theorem te16718502986537622732:True:=⟨⟩
theorem te1651777351576824082:True:=⟨⟩
theorem te16498875414848017983:True:=⟨⟩
theorem te16486642461933210342:True:=⟨⟩
theorem te16442520029768143188:True:=⟨⟩
theorem te16436987485476390555:True:=⟨⟩
theorem te16396717903372258080:True:=⟨⟩
theorem te16370205378935999778:True:=⟨⟩
theorem te16369566235112185050:True:=⟨⟩
theorem te16048041448398187041:True:=⟨⟩
theorem te16027666241892511698:True:=⟨⟩
theorem te15966887532646445175:True:=⟨⟩
theorem te1592447511926348758:True:=⟨⟩
theorem te15900481192945253155:True:=⟨⟩
theorem te15706540974901149973:True:=⟨⟩
theorem te15686764001371548304:True:=⟨⟩
theorem te15669604007385931492:True:=⟨⟩
theorem te1564237053690600856:True:=⟨⟩
theorem te15581602899544580563:True:=⟨⟩
theorem te1549495222351882247:True:=⟨⟩
theorem te15385766119067870955:True:=⟨⟩
theorem te15384831840311157324:True:=⟨⟩
theorem te15252122323313225510:True:=⟨⟩
theorem te15213702794979586058:True:=⟨⟩
theorem te15174835312700014970:True:=⟨⟩
theorem te15167362422248814985:True:=⟨⟩
theorem te15133272634762797819:True:=⟨⟩
theorem te15061115298385945322:True:=⟨⟩
theorem te15044120654524176468:True:=⟨⟩
theorem te1504349298258151967:True:=⟨⟩
theorem te15029487492002026054:True:=⟨⟩
theorem te150235802904777401:True:=⟨⟩
theorem te14969301225864562066:True:=⟨⟩
theorem te14949874553734230264:True:=⟨⟩
theorem te14906705764292354383:True:=⟨⟩
theorem te14886169062061655732:True:=⟨⟩
theorem te14853894109922833487:True:=⟨⟩
theorem te14838287620324793293:True:=⟨⟩
theorem te14816844436512129739:True:=⟨⟩
theorem te14802530856162735712:True:=⟨⟩
theorem te1480226273334225274:True:=⟨⟩
theorem te14699250746816147447:True:=⟨⟩
theorem te1468706378048291537:True:=⟨⟩
theorem te14685483598719957032:True:=⟨⟩
theorem te14666342540894958915:True:=⟨⟩
theorem te14640977315099453868:True:=⟨⟩
theorem te14570545285542254002:True:=⟨⟩
theorem te14556131480613413278:True:=⟨⟩
theorem te1453934247193316325:True:=⟨⟩
theorem te14456783266235077346:True:=⟨⟩
theorem te14436363194828653361:True:=⟨⟩
theorem te14356580295238228532:True:=⟨⟩
theorem te14276944965229706027:True:=⟨⟩
theorem te14242771241762156209:True:=⟨⟩
theorem te14236654802503997630:True:=⟨⟩
theorem te14179539428993625562:True:=⟨⟩
theorem te14148692202640680391:True:=⟨⟩
theorem te14143794147813691235:True:=⟨⟩
theorem te14066514043754027564:True:=⟨⟩
theorem te14011060427265772466:True:=⟨⟩
theorem te14007402554056115282:True:=⟨⟩
theorem te1398951976869704368:True:=⟨⟩
theorem te13919517350043297281:True:=⟨⟩
theorem te13824130397137917681:True:=⟨⟩
theorem te13822651153650846354:True:=⟨⟩
theorem te1380183413557742886:True:=⟨⟩
theorem te13745477882611517115:True:=⟨⟩
theorem te13646098347689431817:True:=⟨⟩
theorem te13607335942940857114:True:=⟨⟩
theorem te13579188106694804405:True:=⟨⟩
theorem te13530016393331850389:True:=⟨⟩
theorem te13434018910428458460:True:=⟨⟩
theorem te13420820018242060603:True:=⟨⟩
theorem te13401281575350589745:True:=⟨⟩
theorem te13343288296102324228:True:=⟨⟩
theorem te1332994427533450588:True:=⟨⟩
theorem te13328909517934658932:True:=⟨⟩
theorem te13291597970702418802:True:=⟨⟩
theorem te13282563122418372837:True:=⟨⟩
theorem te13253116970498584475:True:=⟨⟩
theorem te13205894480446469861:True:=⟨⟩
theorem te13137233180691284026:True:=⟨⟩
theorem te1309136169736913805:True:=⟨⟩
theorem te13035517825085205246:True:=⟨⟩
theorem te13032690022308601987:True:=⟨⟩
theorem te13022836243392861739:True:=⟨⟩
theorem te12962131903905103627:True:=⟨⟩
theorem te12750219276744914222:True:=⟨⟩
theorem te1274024216874579802:True:=⟨⟩
theorem te12714188834362141592:True:=⟨⟩
theorem te12684633764789040179:True:=⟨⟩
theorem te12671734393295052380:True:=⟨⟩
theorem te12638744549202917710:True:=⟨⟩
theorem te12611027212552909979:True:=⟨⟩
theorem te12561011264777092205:True:=⟨⟩
theorem te12528935781879630157:True:=⟨⟩
theorem te12503918998044678805:True:=⟨⟩
theorem te12491435936818270969:True:=⟨⟩
theorem te12359722393926777683:True:=⟨⟩
theorem te12287299932973431796:True:=⟨⟩
theorem te12273415025307610986:True:=⟨⟩
theorem te12150302772629990565:True:=⟨⟩
theorem te12147980311815606989:True:=⟨⟩
theorem te1212273286552719258:True:=⟨⟩
theorem te12040787932922757637:True:=⟨⟩
theorem te11995577908569549719:True:=⟨⟩
theorem te11917152880651210090:True:=⟨⟩
theorem te11874096775584970626:True:=⟨⟩
theorem te11761010813610837996:True:=⟨⟩
theorem te11696342447765349727:True:=⟨⟩
theorem te11657289439069806767:True:=⟨⟩
theorem te11567484159764366587:True:=⟨⟩
theorem te11543095196457753568:True:=⟨⟩
theorem te11504209158674640298:True:=⟨⟩
theorem te11442320545478005552:True:=⟨⟩
theorem te114339066359361197:True:=⟨⟩
theorem te11372449677874873621:True:=⟨⟩
theorem te11343465973435881266:True:=⟨⟩
theorem te11336086037164109618:True:=⟨⟩
theorem te11296318696347850727:True:=⟨⟩
theorem te11117092853239780228:True:=⟨⟩
theorem te11083414513760937926:True:=⟨⟩
theorem te11046601635976648325:True:=⟨⟩
theorem te10945799287623909329:True:=⟨⟩
theorem te10897968637378274670:True:=⟨⟩
theorem te10816872383634078799:True:=⟨⟩
theorem te10799117562615878995:True:=⟨⟩
theorem te10756233519615561147:True:=⟨⟩
theorem te10743078861208490623:True:=⟨⟩
theorem te10712230702488619898:True:=⟨⟩
theorem te10602540960147372055:True:=⟨⟩
theorem te10478601864709724874:True:=⟨⟩
theorem te10459940543359493687:True:=⟨⟩
theorem te10411721938723382214:True:=⟨⟩
theorem te10402377221102323627:True:=⟨⟩
theorem te10387894667531654591:True:=⟨⟩
theorem te1029422242203579905:True:=⟨⟩
theorem te10259139342405436700:True:=⟨⟩
theorem te100794820312987634:True:=⟨⟩
theorem te10047426445150087663:True:=⟨⟩
theorem te10040635864508367651:True:=⟨⟩
theorem te1002297694832435125:True:=⟨⟩
theorem te10000274859694962412:True:=⟨⟩
end PySem.W.Fast
set_option maxRecDepth 100000 in
set_option maxHeartbeats 0 in
theorem PySem.Challenge.cw_stilldose_k30_whole_saved_holds : PySem.Challenge.rw_stilldose_k30_whole_saved.Holds := by
  w_on;o_law;k_head;(case hw=>w_witness2)
  k_fill
  refine Sp.walk (l:=PySem.Challenge.rw_stilldose_k30_whole_saved) rfl rfl (fun w h Y=>PySem.W.kIn_of Y) ?F
  case F =>
    intro w mg fa h KX G hmg
    refine' Sp.all_mk KX G hmg ?a_DoseError ?a_BadSetting ?a_Locked ?a_NotThere ?a_BadSave ?x_BadSetting ?t_BadSetting ?u_BadSetting ?eg_BadSetting ?eh_BadSetting ?eb_BadSetting ?eo_BadSetting ?ec_BadSetting ?x_Locked ?t_Locked ?u_Locked ?eg_Locked ?eh_Locked ?eb_Locked ?eo_Locked ?ec_Locked ?x_NotThere ?t_NotThere ?u_NotThere ?eg_NotThere ?eh_NotThere ?eb_NotThere ?eo_NotThere ?ec_NotThere ?t_DoseError ?cg ?ct ?a_Day ?pg_Day ?hd_Day ?po_Day ?sa_Day ?mk_Day ?kc_Day ?n_Day_ticks ?n_Day_parts ?n_Day_sums ?a_Day_init ?i_Day_init ?l_Day_init ?c_Day_init ?k_Day_init ?a_Day_due ?i_Day_due ?l_Day_due ?c_Day_due ?k_Day_due ?a_Pump ?pg_Pump ?hd_Pump ?po_Pump ?sa_Pump ?mk_Pump ?kc_Pump ?n_Pump_day ?n_Pump_rules ?n_Pump_lock ?n_Pump_dose ?n_Pump_hold ?n_Pump_now ?n_Pump_running ?n_Pump_content ?n_Pump_waiting ?n_Pump_asked ?n_Pump_missed ?n_Pump_total ?n_Pump_free ?n_Pump_sent ?a_Pump_init ?i_Pump_init ?l_Pump_init ?c_Pump_init ?k_Pump_init ?a_Pump_time ?i_Pump_time ?l_Pump_time ?c_Pump_time ?k_Pump_time ?a_Pump_is_running ?i_Pump_is_running ?l_Pump_is_running ?c_Pump_is_running ?k_Pump_is_running ?a_Pump_state ?i_Pump_state ?l_Pump_state ?c_Pump_state ?k_Pump_state ?a_check_between ?l_check_between ?c_check_between ?k_check_between ?a_drops_by ?l_drops_by ?c_drops_by ?k_drops_by ?a_drops_at ?l_drops_at ?c_drops_at ?k_drops_at ?a_check_part ?l_check_part ?c_check_part ?k_check_part ?a_check_day ?l_check_day ?c_check_day ?k_check_day ?a_drops_within ?l_drops_within ?c_drops_within ?k_drops_within ?a_sums_ahead ?l_sums_ahead ?c_sums_ahead ?k_sums_ahead ?a_place_of_part ?l_place_of_part ?c_place_of_part ?k_place_of_part ?a_checked_rules ?l_checked_rules ?c_checked_rules ?k_checked_rules ?a_longest_window ?l_longest_window ?c_longest_window ?k_longest_window ?a_sum_of_last ?l_sum_of_last ?c_sum_of_last ?k_sum_of_last ?a_room_left ?l_room_left ?c_room_left ?k_room_left ?a_room ?l_room ?c_room ?k_room ?a_send ?l_send ?c_send ?k_send ?a_miss_above_hold ?l_miss_above_hold ?c_miss_above_hold ?k_miss_above_hold ?a_tick ?l_tick ?c_tick ?k_tick ?a_start ?l_start ?c_start ?k_start ?a_stop ?l_stop ?c_stop ?k_stop ?a_fill ?l_fill ?c_fill ?k_fill ?a_press ?l_press ?c_press ?k_press ?a_report ?l_report ?c_report ?k_report ?a_Lcell ?l_Lcell ?c_Lcell ?k_Lcell ?a_Lmix ?l_Lmix ?c_Lmix ?k_Lmix ?a_Lwhole ?l_Lwhole ?c_Lwhole ?k_Lwhole ?a_Lday ?l_Lday ?c_Lday ?k_Lday ?a_Lrules ?l_Lrules ?c_Lrules ?k_Lrules ?a_Lsetting ?l_Lsetting ?c_Lsetting ?k_Lsetting ?a_Ldue ?l_Ldue ?c_Ldue ?k_Ldue ?a_Ldeed ?l_Ldeed ?c_Ldeed ?k_Ldeed ?a_Lnew ?l_Lnew ?c_Lnew ?k_Lnew ?a_Lasked ?l_Lasked ?c_Lasked ?k_Lasked ?a_Lstart ?l_Lstart ?c_Lstart ?k_Lstart ?a_Lroom ?l_Lroom ?c_Lroom ?k_Lroom ?a_Ltick ?l_Ltick ?c_Ltick ?k_Ltick ?a_Lreport ?l_Lreport ?c_Lreport ?k_Lreport ?a_Ldone ?l_Ldone ?c_Ldone ?k_Ldone ?a_Lis ?l_Lis ?c_Lis ?k_Lis ?a_Lsame ?l_Lsame ?c_Lsame ?k_Lsame ?a_counts ?l_counts ?c_counts ?k_counts ?a_set_counts ?l_set_counts ?c_set_counts ?k_set_counts ?a_line_of ?l_line_of ?c_line_of ?k_line_of ?a_saved ?l_saved ?c_saved ?k_saved ?a_is_number ?l_is_number ?c_is_number ?k_is_number ?a_numbers_of ?l_numbers_of ?c_numbers_of ?k_numbers_of ?a_fits ?l_fits ?c_fits ?k_fits ?a_rows_of ?l_rows_of ?c_rows_of ?k_rows_of ?a_loaded ?l_loaded ?c_loaded ?k_loaded ?a_twin ?l_twin ?c_twin ?k_twin ?a_ahead ?l_ahead ?c_ahead ?k_ahead ?a_Llines ?l_Llines ?c_Llines ?k_Llines ?a_law ?l_law ?c_law ?k_law ?z_len ?z_zip ?z_tuple ?z_range ?z_max ?z_min ?z_isinstance ?z_int ?z_bool ?z_str ?z_list ?z_sum ?z_all ?z_ValueError ?z_enumerate ?z_MOST_DROPS_rates ?z_MOST_TICKS ?z_MOST_DROPS_limits ?z_MOST_RULES ?z_LONGEST_WINDOW ?z_MOST ?z_MOST_FIGURES ?z_FIGURES ?a_WORDS ?l_WORDS ?v_WORDS ?kit_ib ?kit_BadSetting_BadSetting ?kit_BadSetting_Locked ?kit_BadSetting_NotThere ?kit_BadSetting_v ?kit_BadSetting_s ?kit_Locked_BadSetting ?kit_Locked_Locked ?kit_Locked_NotThere ?kit_Locked_v ?kit_Locked_s ?kit_NotThere_BadSetting ?kit_NotThere_Locked ?kit_NotThere_NotThere ?kit_NotThere_v ?kit_NotThere_s ?kit_sb ?kit_nb
    (case a_DoseError=>k_is)
    (case a_BadSetting=>k_is)
    (case a_Locked=>k_is)
    (case a_NotThere=>k_is)
    (case a_BadSave=>k_is)
    (case x_BadSetting=>k_exc)
    (case t_BadSetting=>kts_isx)
    (case u_BadSetting=>k_is)
    (case eg_BadSetting=>k_is)
    (case eh_BadSetting=>k_is)
    (case eb_BadSetting=>k_is)
    (case eo_BadSetting=>k_is)
    (case ec_BadSetting=>k_is)
    (case x_Locked=>k_exc)
    (case t_Locked=>kts_isx)
    (case u_Locked=>k_is)
    (case eg_Locked=>k_is)
    (case eh_Locked=>k_is)
    (case eb_Locked=>k_is)
    (case eo_Locked=>k_is)
    (case ec_Locked=>k_is)
    (case x_NotThere=>k_exc)
    (case t_NotThere=>kts_isx)
    (case u_NotThere=>k_is)
    (case eg_NotThere=>k_is)
    (case eh_NotThere=>k_is)
    (case eb_NotThere=>k_is)
    (case eo_NotThere=>k_is)
    (case ec_NotThere=>k_is)
    (case t_DoseError=>kts_isx)
    (case cg=>k_is)
    (case ct=>k_is)
    (case a_Day=>k_is)
    (case pg_Day=>k_is)
    (case hd_Day=>k_is)
    (case po_Day=>k_is)
    (case sa_Day=>k_is)
    (case mk_Day=>k_is)
    (case kc_Day=>k_is)
    (case n_Day_ticks=>k_is)
    (case n_Day_parts=>k_is)
    (case n_Day_sums=>k_is)
    (case a_Day_init=>k_is)
    (case i_Day_init=>k_is)
    (case l_Day_init=>k_is)
    (case c_Day_init=>k_is)
    (case k_Day_init=>k_is)
    (case a_Day_due=>k_is)
    (case i_Day_due=>k_is)
    (case l_Day_due=>k_is)
    (case c_Day_due=>k_is)
    (case k_Day_due=>k_is)
    (case a_Pump=>k_is)
    (case pg_Pump=>k_is)
    (case hd_Pump=>k_is)
    (case po_Pump=>k_is)
    (case sa_Pump=>k_is)
    (case mk_Pump=>k_is)
    (case kc_Pump=>k_is)
    (case n_Pump_day=>k_is)
    (case n_Pump_rules=>k_is)
    (case n_Pump_lock=>k_is)
    (case n_Pump_dose=>k_is)
    (case n_Pump_hold=>k_is)
    (case n_Pump_now=>k_is)
    (case n_Pump_running=>k_is)
    (case n_Pump_content=>k_is)
    (case n_Pump_waiting=>k_is)
    (case n_Pump_asked=>k_is)
    (case n_Pump_missed=>k_is)
    (case n_Pump_total=>k_is)
    (case n_Pump_free=>k_is)
    (case n_Pump_sent=>k_is)
    (case a_Pump_init=>k_is)
    (case i_Pump_init=>k_is)
    (case l_Pump_init=>k_is)
    (case c_Pump_init=>k_is)
    (case k_Pump_init=>k_is)
    (case a_Pump_time=>k_is)
    (case i_Pump_time=>k_is)
    (case l_Pump_time=>k_is)
    (case c_Pump_time=>k_is)
    (case k_Pump_time=>k_is)
    (case a_Pump_is_running=>k_is)
    (case i_Pump_is_running=>k_is)
    (case l_Pump_is_running=>k_is)
    (case c_Pump_is_running=>k_is)
    (case k_Pump_is_running=>k_is)
    (case a_Pump_state=>k_is)
    (case i_Pump_state=>k_is)
    (case l_Pump_state=>k_is)
    (case c_Pump_state=>k_is)
    (case k_Pump_state=>k_is)
    (case a_check_between=>k_is)
    (case l_check_between=>k_is)
    (case c_check_between=>k_is)
    (case k_check_between=>k_is)
    (case a_drops_by=>k_is)
    (case l_drops_by=>k_is)
    (case c_drops_by=>k_is)
    (case k_drops_by=>k_is)
    (case a_drops_at=>k_is)
    (case l_drops_at=>k_is)
    (case c_drops_at=>k_is)
    (case k_drops_at=>k_is)
    (case a_check_part=>k_is)
    (case l_check_part=>k_is)
    (case c_check_part=>k_is)
    (case k_check_part=>k_is)
    (case a_check_day=>k_is)
    (case l_check_day=>k_is)
    (case c_check_day=>k_is)
    (case k_check_day=>k_is)
    (case a_drops_within=>k_is)
    (case l_drops_within=>k_is)
    (case c_drops_within=>k_is)
    (case k_drops_within=>k_is)
    (case a_sums_ahead=>k_is)
    (case l_sums_ahead=>k_is)
    (case c_sums_ahead=>k_is)
    (case k_sums_ahead=>k_is)
    (case a_place_of_part=>k_is)
    (case l_place_of_part=>k_is)
    (case c_place_of_part=>k_is)
    (case k_place_of_part=>k_is)
    (case a_checked_rules=>k_is)
    (case l_checked_rules=>k_is)
    (case c_checked_rules=>k_is)
    (case k_checked_rules=>k_is)
    (case a_longest_window=>k_is)
    (case l_longest_window=>k_is)
    (case c_longest_window=>k_is)
    (case k_longest_window=>k_is)
    (case a_sum_of_last=>k_is)
    (case l_sum_of_last=>k_is)
    (case c_sum_of_last=>k_is)
    (case k_sum_of_last=>k_is)
    (case a_room_left=>k_is)
    (case l_room_left=>k_is)
    (case c_room_left=>k_is)
    (case k_room_left=>k_is)
    (case a_room=>k_is)
    (case l_room=>k_is)
    (case c_room=>k_is)
    (case k_room=>k_is)
    (case a_send=>k_is)
    (case l_send=>k_is)
    (case c_send=>k_is)
    (case k_send=>k_is)
    (case a_miss_above_hold=>k_is)
    (case l_miss_above_hold=>k_is)
    (case c_miss_above_hold=>k_is)
    (case k_miss_above_hold=>k_is)
    (case a_tick=>k_is)
    (case l_tick=>k_is)
    (case c_tick=>k_is)
    (case k_tick=>k_is)
    (case a_start=>k_is)
    (case l_start=>k_is)
    (case c_start=>k_is)
    (case k_start=>k_is)
    (case a_stop=>k_is)
    (case l_stop=>k_is)
    (case c_stop=>k_is)
    (case k_stop=>k_is)
    (case a_fill=>k_is)
    (case l_fill=>k_is)
    (case c_fill=>k_is)
    (case k_fill=>k_is)
    (case a_press=>k_is)
    (case l_press=>k_is)
    (case c_press=>k_is)
    (case k_press=>k_is)
    (case a_report=>k_is)
    (case l_report=>k_is)
    (case c_report=>k_is)
    (case k_report=>k_is)
    (case a_Lcell=>k_is)
    (case l_Lcell=>k_is)
    (case c_Lcell=>k_is)
    (case k_Lcell=>k_is)
    (case a_Lmix=>k_is)
    (case l_Lmix=>k_is)
    (case c_Lmix=>k_is)
    (case k_Lmix=>k_is)
    (case a_Lwhole=>k_is)
    (case l_Lwhole=>k_is)
    (case c_Lwhole=>k_is)
    (case k_Lwhole=>k_is)
    (case a_Lday=>k_is)
    (case l_Lday=>k_is)
    (case c_Lday=>k_is)
    (case k_Lday=>k_is)
    (case a_Lrules=>k_is)
    (case l_Lrules=>k_is)
    (case c_Lrules=>k_is)
    (case k_Lrules=>k_is)
    (case a_Lsetting=>k_is)
    (case l_Lsetting=>k_is)
    (case c_Lsetting=>k_is)
    (case k_Lsetting=>k_is)
    (case a_Ldue=>k_is)
    (case l_Ldue=>k_is)
    (case c_Ldue=>k_is)
    (case k_Ldue=>k_is)
    (case a_Ldeed=>k_is)
    (case l_Ldeed=>k_is)
    (case c_Ldeed=>k_is)
    (case k_Ldeed=>k_is)
    (case a_Lnew=>k_is)
    (case l_Lnew=>k_is)
    (case c_Lnew=>k_is)
    (case k_Lnew=>k_is)
    (case a_Lasked=>k_is)
    (case l_Lasked=>k_is)
    (case c_Lasked=>k_is)
    (case k_Lasked=>k_is)
    (case a_Lstart=>k_is)
    (case l_Lstart=>k_is)
    (case c_Lstart=>k_is)
    (case k_Lstart=>k_is)
    (case a_Lroom=>k_is)
    (case l_Lroom=>k_is)
    (case c_Lroom=>k_is)
    (case k_Lroom=>k_is)
    (case a_Ltick=>k_is)
    (case l_Ltick=>k_is)
    (case c_Ltick=>k_is)
    (case k_Ltick=>k_is)
    (case a_Lreport=>k_is)
    (case l_Lreport=>k_is)
    (case c_Lreport=>k_is)
    (case k_Lreport=>k_is)
    (case a_Ldone=>k_is)
    (case l_Ldone=>k_is)
    (case c_Ldone=>k_is)
    (case k_Ldone=>k_is)
    (case a_Lis=>k_is)
    (case l_Lis=>k_is)
    (case c_Lis=>k_is)
    (case k_Lis=>k_is)
    (case a_Lsame=>k_is)
    (case l_Lsame=>k_is)
    (case c_Lsame=>k_is)
    (case k_Lsame=>k_is)
    (case a_counts=>k_is)
    (case l_counts=>k_is)
    (case c_counts=>k_is)
    (case k_counts=>k_is)
    (case a_set_counts=>k_is)
    (case l_set_counts=>k_is)
    (case c_set_counts=>k_is)
    (case k_set_counts=>k_is)
    (case a_line_of=>k_is)
    (case l_line_of=>k_is)
    (case c_line_of=>k_is)
    (case k_line_of=>k_is)
    (case a_saved=>k_is)
    (case l_saved=>k_is)
    (case c_saved=>k_is)
    (case k_saved=>k_is)
    (case a_is_number=>k_is)
    (case l_is_number=>k_is)
    (case c_is_number=>k_is)
    (case k_is_number=>k_is)
    (case a_numbers_of=>k_is)
    (case l_numbers_of=>k_is)
    (case c_numbers_of=>k_is)
    (case k_numbers_of=>k_is)
    (case a_fits=>k_is)
    (case l_fits=>k_is)
    (case c_fits=>k_is)
    (case k_fits=>k_is)
    (case a_rows_of=>k_is)
    (case l_rows_of=>k_is)
    (case c_rows_of=>k_is)
    (case k_rows_of=>k_is)
    (case a_loaded=>k_is)
    (case l_loaded=>k_is)
    (case c_loaded=>k_is)
    (case k_loaded=>k_is)
    (case a_twin=>k_is)
    (case l_twin=>k_is)
    (case c_twin=>k_is)
    (case k_twin=>k_is)
    (case a_ahead=>k_is)
    (case l_ahead=>k_is)
    (case c_ahead=>k_is)
    (case k_ahead=>k_is)
    (case a_Llines=>k_is)
    (case l_Llines=>k_is)
    (case c_Llines=>k_is)
    (case k_Llines=>k_is)
    (case a_law=>k_is)
    (case l_law=>k_is)
    (case c_law=>k_is)
    (case k_law=>k_is)
    (case z_len=>k_is)
    (case z_zip=>k_is)
    (case z_tuple=>k_is)
    (case z_range=>k_is)
    (case z_max=>k_is)
    (case z_min=>k_is)
    (case z_isinstance=>k_is)
    (case z_int=>k_is)
    (case z_bool=>k_is)
    (case z_str=>k_is)
    (case z_list=>k_is)
    (case z_sum=>k_is)
    (case z_all=>k_is)
    (case z_ValueError=>k_is)
    (case z_enumerate=>k_is)
    (case z_MOST_DROPS_rates=>k_is)
    (case z_MOST_TICKS=>k_is)
    (case z_MOST_DROPS_limits=>k_is)
    (case z_MOST_RULES=>k_is)
    (case z_LONGEST_WINDOW=>k_is)
    (case z_MOST=>k_is)
    (case z_MOST_FIGURES=>k_is)
    (case z_FIGURES=>k_is)
    (case a_WORDS=>k_is)
    (case l_WORDS=>k_is)
    (case v_WORDS=>exact (.cons (by first | exact ⟨_,rfl⟩ | exact ⟨_,congrArg (Value.str · _) s!"k"⟩) (.cons (by first | exact ⟨_,rfl⟩ | exact ⟨_,congrArg (Value.str · _) s!"k"⟩) (.cons (by first | exact ⟨_,rfl⟩ | exact ⟨_,congrArg (Value.str · _) s!"k"⟩) (.cons (by first | exact ⟨_,rfl⟩ | exact ⟨_,congrArg (Value.str · _) s!"k"⟩) (.cons (by first | exact ⟨_,rfl⟩ | exact ⟨_,congrArg (Value.str · _) s!"k"⟩) (.cons (by first | exact ⟨_,rfl⟩ | exact ⟨_,congrArg (Value.str · _) s!"k"⟩) (.cons (by first | exact ⟨_,rfl⟩ | exact ⟨_,congrArg (Value.str · _) s!"k"⟩) (.cons (by first | exact ⟨_,rfl⟩ | exact ⟨_,congrArg (Value.str · _) s!"k"⟩) (.cons (by first | exact ⟨_,rfl⟩ | exact ⟨_,congrArg (Value.str · _) s!"k"⟩) .nil))))))))))
    (case kit_ib=>kit_is)
    (case kit_BadSetting_BadSetting=>kit_is)
    (case kit_BadSetting_Locked=>kit_is)
    (case kit_BadSetting_NotThere=>kit_is)
    (case kit_BadSetting_v=>kit_is)
    (case kit_BadSetting_s=>kit_is)
    (case kit_Locked_BadSetting=>kit_is)
    (case kit_Locked_Locked=>kit_is)
    (case kit_Locked_NotThere=>kit_is)
    (case kit_Locked_v=>kit_is)
    (case kit_Locked_s=>kit_is)
    (case kit_NotThere_BadSetting=>kit_is)
    (case kit_NotThere_Locked=>kit_is)
    (case kit_NotThere_NotThere=>kit_is)
    (case kit_NotThere_v=>kit_is)
    (case kit_NotThere_s=>kit_is)
    (case kit_sb=>kit_is)
    (case kit_nb=>kit_is)
#print axioms PySem.Challenge.cw_stilldose_k30_whole_saved_holds
