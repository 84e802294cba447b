import PyProof.Rows.All
import Wide.All
import OpenK.AllK
import Wide.FinOn
import Lean
import PyProof.EqAt
import PyProof.EqKinds
import PyProof.TupleCall
import PyProof.StationsW
import PyProof.RulesAs
import PyProof.ExcClass3
import PyProof.NsDelKeeps
import PyProof.PassesOwn
import PyProof.ZipIter
import PyProof.WalksU
import PyProof.WalksMore
import PyProof.StrCalls2
import KE.KIntText
import PyProof.Rows.StrItems
import PyProof.StrLawsOcc
import PyProof.StrWalks
import PyProof.Draws
import PyProof.EnumMake
import PyProof.WalksEnum
import PyProof.ExcInit
import PyProof.InstStoreFacts
import PyProof.StrLawsTight
import PyProof.StrLawsChain
import PyProof.StrLawsIn
import PyProof.StrLawsJoin
import KE.IntTextText
import PySem.Challenge.RW_stilldose_k31_bad_saves
set_option Elab.async false
set_option linter.all false
set_option maxRecDepth 100000
/-! THE HAND LAYER, for ints, bools, texts, own classes, LISTS and tuples (index, slices, in, append, pop ..), calls, loops. Paste it whole ahead of your own text; what your proof does not reach may be deleted. -/
namespace L2
open PySem PySem.Spec PyProof.Rows

noncomputable abbrev Key := Sum Int Str
noncomputable def keyIs : Key → Value → Bool
  | .inl k, v => Value.isInt k v
  | .inr x, v => Value.isStrOf x v
noncomputable def keyH (w : World) : Key → Int
  | .inl k => hashInt k
  | .inr x => hashStr w x
theorem keyIs_shape : ∀ {k : Key} {v : Value}, keyIs k v = true → (∃ i t, k = Sum.inl i ∧ v = Value.int i t) ∨ (∃ x t, k = Sum.inr x ∧ v = Value.str x t)
  | .inl i, v, h => by
    obtain ⟨t, e⟩ := Value.isInt_shape (k := i) (v := v) h
    exact .inl ⟨i, t, rfl, e⟩
  | .inr x, v, h => by
    obtain ⟨t, e⟩ := Value.isStrOf_shape (x := x) (v := v) h
    exact .inr ⟨x, t, rfl, e⟩
theorem key_ll (a b : Int) : decide ((Sum.inl a : Key) = Sum.inl b) = (a == b) := by
  by_cases e : a = b
  · subst e; simp
  · have h : ¬ (Sum.inl a : Key) = Sum.inl b := fun q => e (Sum.inl.inj q)
    rw [decide_eq_false h]
    exact (beq_eq_false_iff_ne.mpr e).symm
theorem key_rr (a b : Str) : decide ((Sum.inr a : Key) = Sum.inr b) = decide (a = b) := by
  by_cases e : a = b
  · subst e; simp
  · have h : ¬ (Sum.inr a : Key) = Sum.inr b := fun q => e (Sum.inr.inj q)
    rw [decide_eq_false h, decide_eq_false e]
theorem key_lr (a : Int) (b : Str) : decide ((Sum.inl a : Key) = Sum.inr b) = false := decide_eq_false (fun q => nomatch q)
theorem key_rl (a : Str) (b : Int) : decide ((Sum.inr a : Key) = Sum.inl b) = false := decide_eq_false (fun q => nomatch q)

noncomputable def mixKind (prog : Program) (w : World) : PySem.KeyKind prog w Key where
  is := keyIs
  hash := keyH w
  inj := fun v a b ha hb => by
    rcases keyIs_shape ha with ⟨i, t, rfl, rfl⟩ | ⟨x, t, rfl, rfl⟩
    · rcases keyIs_shape hb with ⟨j, u, rfl, e⟩ | ⟨y, u, rfl, e⟩
      · injection e with e1 _; rw [e1]
      · exact nomatch e
    · rcases keyIs_shape hb with ⟨j, u, rfl, e⟩ | ⟨y, u, rfl, e⟩
      · exact nomatch e
      · injection e with e1 _; rw [e1]
  byValue := fun k v h => by
    rcases keyIs_shape h with ⟨i, t, rfl, rfl⟩ | ⟨x, t, rfl, rfl⟩ <;> rfl
  pyHash := fun hv h => by
    rcases keyIs_shape hv with ⟨i, t, rfl, rfl⟩ | ⟨x, t, rfl, rfl⟩
    · exact wpAny_pyHash_int h
    · exact wpAny_pyHash_str h
  eqBool := fun hu hv h => by
    rcases keyIs_shape hu with ⟨i, t, rfl, rfl⟩ | ⟨x, t, rfl, rfl⟩
    · rcases keyIs_shape hv with ⟨j, u, rfl, rfl⟩ | ⟨y, u, rfl, rfl⟩
      · rw [key_ll] at h; exact wpAny_eqBool_int h
      · rw [key_lr] at h; exact SeqAt.EqAt.int_str i t y u _ _ _ _ h
    · rcases keyIs_shape hv with ⟨j, u, rfl, rfl⟩ | ⟨y, u, rfl, rfl⟩
      · rw [key_rl] at h; exact SeqAt.EqAt.str_int x t j u _ _ _ _ h
      · rw [key_rr] at h; exact wpAny_eqBool_str h
  «strs» := fun k x t v h => by
    rcases keyIs_shape h with ⟨i, u, rfl, e⟩ | ⟨y, u, rfl, e⟩
    · exact nomatch e
    · injection e with e1 _
      subst e1
      cases v <;> rfl

end L2

namespace L2
open PySem PySem.Spec PyProof.Rows

inductive V where
  | non | bl (b : Bool) | int (i : Int) | str (x : Str) | byt (b : Array UInt8) | flt (b : UInt64) | ref (a : Addr) | ty (n : String)
  deriving DecidableEq

noncomputable def RelV : V → Value → Prop
  | .non, u => u = Value.none
  | .bl b, u => u = Value.bool b
  | .int i, u => ∃ t, u = Value.int i t
  | .str x, u => ∃ t, u = Value.str x t
  | .byt b, u => ∃ t, u = Value.bytes b t
  | .flt b, u => ∃ t, u = Value.float b t
  | .ref a, u => u = Value.ref a
  | .ty n, u => u = Value.type n

noncomputable abbrev Vals : List V → List Value → Prop := Paired RelV
theorem Vals.length {xs : List V} {us : List Value} (r : Vals xs us) : xs.length = us.length := Paired.length r
theorem Vals.get : ∀ {xs : List V} {us : List Value} {i : Nat} {x : V}, Vals xs us → xs[i]? = some x → ∃ u, us[i]? = some u ∧ RelV x u
  | _, _, _, _, .nil, e => by simp at e
  | _, _, 0, _, .cons r _, e => by simp at e; subst e; exact ⟨_, rfl, r⟩
  | _, _, i + 1, x, .cons _ t, e => by
    obtain ⟨u, h1, h2⟩ := Vals.get (i := i) (x := x) t (by simpa using e)
    exact ⟨u, by simpa using h1, h2⟩
theorem Vals.set {x : V} {u : Value} (r : RelV x u) : ∀ {xs : List V} {us : List Value} (i : Nat), Vals xs us → Vals (xs.set i x) (us.set i u)
  | _, _, _, .nil => .nil
  | _, _, 0, .cons _ t => .cons r t
  | _, _, i + 1, .cons q t => .cons q (Vals.set r i t)
theorem Vals.append : ∀ {xs ys : List V} {us ws : List Value}, Vals xs us → Vals ys ws → Vals (xs ++ ys) (us ++ ws)
  | _, _, _, _, .nil, s => s
  | _, _, _, _, .cons r t, s => .cons r (Vals.append t s)
theorem Vals.take : ∀ {xs : List V} {us : List Value} (n : Nat), Vals xs us → Vals (xs.take n) (us.take n)
  | _, _, 0, _ => .nil
  | _, _, _ + 1, .nil => .nil
  | _, _, n + 1, .cons r t => .cons r (Vals.take n t)
theorem Vals.drop : ∀ {xs : List V} {us : List Value} (n : Nat), Vals xs us → Vals (xs.drop n) (us.drop n)
  | _, _, 0, r => r
  | _, _, _ + 1, .nil => .nil
  | _, _, n + 1, .cons _ t => Vals.drop n t
noncomputable def RelO : Option V → Option Value → Prop
  | some v, some u => RelV v u
  | none, none => True
  | _, _ => False
noncomputable def KV {κ : Type} : List (κ × V) → List (κ × Value) → Prop := Paired fun (p : κ × V) (q : κ × Value) => p.1 = q.1 ∧ RelV p.2 q.2

noncomputable def kV : Key → V
  | .inl i => .int i
  | .inr x => .str x

inductive HO where
  /-- a list -/
  | lst (xs : List V)
  /-- a tuple (never changes) -/
  | tup (xs : List V)
  /-- a dict whose keys are ints and texts; one whose keys are tuples of ints and texts (the empty one is both) -/
  | dK (kvs : List (Key × V)) | dT (kvs : List (List Key × V))
  /-- a set of ints: its members, its size -/
  | set (S : Int → Bool) (n : Nat)
  /-- an instance of the class at C, its dict at dx, its attributes -/
  | ins (C dx : Addr) (fs : List (Str × V))
  /-- the dict of the instance at x -/
  | own (x : Addr)
  /-- the dict of an exception -/
  | xd (fs : List (Str × V))
  /-- a bound method, f of x -/
  | met (f x : Addr)
  /-- a range object lo, lo + 1, .. below hi -/
  | rng (lo hi : Int)
  /-- a thing that is known to the object (the script; a dict while a loop walks it): read, never written while it is so -/
  | frz (o : Obj) (u : HO)
  /-- a code object's table -/
  | tbl (ps : Array Value)
  /-- any other thing, by what is true of its one object (a def of one's own: SetO a S n := HO.ext fun h => ..) -/
  | ext (φ : Heap → Prop)

noncomputable abbrev Hp := Addr → Option HO
noncomputable def upd (H : Hp) (a : Addr) (o : HO) : Hp := fun b => if b = a then some o else H b
theorem upd_same {H : Hp} {a : Addr} {o : HO} : upd H a o a = some o := by unfold upd; rw [if_pos rfl]
theorem upd_ne {H : Hp} {a b : Addr} {o : HO} (h : b ≠ a) : upd H a o b = H b := by unfold upd; rw [if_neg h]
theorem upd_upd {H : Hp} {a : Addr} {o u : HO} : upd (upd H a o) a u = upd H a u := by
  funext b; unfold upd; split <;> rfl
theorem ne_of {H : Hp} {a b : Addr} {o u : HO} (h : H a = some o) (h' : H b = some u) (d : o ≠ u) : a ≠ b := by
  intro e; subst e; rw [h] at h'; exact d (Option.some.inj h')
theorem ne_of_none {H : Hp} {a b : Addr} {o : HO} (h : H a = some o) (h' : H b = none) : a ≠ b := by
  intro e; subst e; rw [h] at h'; cases h'

section
variable (P : Program) (w : World)
noncomputable def ObjOk (H : Hp) (h : Heap) (a : Addr) : HO → Prop
  | .lst xs => xs.length ≤ sizeLine ∧ ∃ (its : List Value) (n : Nat), Vals xs its ∧ h.get? a = some { cls := .type "list", data := .seq its.toArray n }
  | .tup xs => xs.length ≤ sizeLine ∧ ∃ its : List Value, Vals xs its ∧ IsTup h a its.toArray
  | .dK kvs => kvs.length ≤ sizeLine ∧ (a == sysModules) = false ∧ ∃ vs, KV kvs vs ∧ h.DictOf (mixKind P w) a vs
  | .dT kvs => kvs.length ≤ sizeLine ∧ (a == sysModules) = false ∧ ∃ xs : List (List Key × Addr × Value),
      Paired (fun (p : List Key × V) (q : List Key × Addr × Value) => p.1 = q.1 ∧ H q.2.1 = some (.tup (p.1.map kV)) ∧ RelV p.2 q.2.2) kvs xs ∧
      ∃ o es ep, h.get? a = some o ∧ o.ExactDict ∧ o.data = .dict es ep ∧ es.toList = xs.map (entryOfKey (tupleKind (mixKind P w))) ∧ (xs.map (·.1)).Nodup
  | .set S n => h.SetOf (intKind P w) a S n
  | .ins C dx fs => H dx = some (.own a) ∧ fs.length ≤ 1000 ∧ dx ≠ a ∧ h.get? a = some (PySem.W.instObj C dx) ∧
      ∃ mA, h.Ns1 dx mA ∧ (∀ f, RelO (fs.lookup f) (mA f)) ∧ PySem.Within mA (fs.map (·.1))
  | .own _ => ∃ o, h.get? a = some o
  | .xd fs => ∃ mA, h.Ns1 a mA ∧ ∀ f, RelO (fs.lookup f) (mA f)
  | .rng lo hi => ∃ t u v, h.get? a = some { cls := .type "range", data := .fields #[.int lo t, .int hi u, .int 1 v] }
  | .frz o u => h.get? a = some o ∧ ObjOk H h a u
  | .tbl ps => h.get? a = some { cls := .none, data := .fields ps }
  | .met f x => h.get? a = some (PySem.W.methodObj (.ref f) (.ref x))
  | .ext φ => φ h ∧ (∃ o, h.get? a = some o) ∧ ∀ h1 h2 : Heap, φ h1 → (∀ o, h1.get? a = some o → h2.get? a = some o) → φ h2
noncomputable def HOk (H : Hp) (h : Heap) : Prop := ∀ a o, H a = some o → ObjOk P w H h a o
end

section
variable {P : Program} {w : World} {H H' : Hp} {h h' : Heap} {a : Addr} {o : HO}
theorem ObjOk.lt (x : ObjOk P w H h a o) : a < h.objs.size := by
  cases o with
  | lst xs => obtain ⟨_, _, _, _, e⟩ := x; exact Heap.lt_size e
  | tup xs => obtain ⟨_, _, _, p⟩ := x; exact p.lt
  | dK kvs => obtain ⟨_, _, _, _, o, _, _, e, _⟩ := x; exact Heap.lt_size e
  | dT kvs => obtain ⟨_, _, _, _, o, _, _, e, _⟩ := x; exact Heap.lt_size e
  | set S n => obtain ⟨o, _, _, _, e, _⟩ := x; exact Heap.lt_size e
  | ins C dx fs => obtain ⟨_, _, _, e, _⟩ := x; exact Heap.lt_size e
  | own y => obtain ⟨_, e⟩ := x; exact Heap.lt_size e
  | xd fs => obtain ⟨_, ⟨_, _, _, e, _⟩, _⟩ := x; exact Heap.lt_size e
  | rng lo hi => obtain ⟨_, _, _, e⟩ := x; exact Heap.lt_size e
  | frz ob u => obtain ⟨e, _⟩ := x; exact Heap.lt_size e
  | tbl ps => exact Heap.lt_size (show h.get? a = some _ from x)
  | met f y => exact Heap.lt_size (show h.get? a = some _ from x)
  | ext φ => obtain ⟨_, ⟨_, e⟩, _⟩ := x; exact Heap.lt_size e
theorem Paired.mapP {α β : Type} {F G : α → β → Prop} : ∀ {l₁ : List α} {l₂ : List β}, Paired F l₁ l₂ → (∀ a b, F a b → G a b) → Paired G l₁ l₂
  | _, _, .nil, _ => .nil
  | _, _, .cons r t, f => .cons (f _ _ r) (Paired.mapP t f)
theorem ObjOk.stay (x : ObjOk P w H h a o) (k : ∀ b u, (b = a ∨ H b = some (.own a)) → h.get? b = some u → h'.get? b = some u)
    (ho : ∀ b, H b = some (.own a) → H' b = some (.own a)) (ht : ∀ b xs, H b = some (.tup xs) → H' b = some (.tup xs)) : ObjOk P w H' h' a o := by
  induction o with
  | lst xs => obtain ⟨z, its, n, r, e⟩ := x; exact ⟨z, its, n, r, k _ _ (.inl rfl) e⟩
  | tup xs => obtain ⟨z, its, r, ob, e, c⟩ := x; exact ⟨z, its, r, ob, k _ _ (.inl rfl) e, c⟩
  | dK kvs => obtain ⟨z, y, vs, r, ob, es, ep, e, c⟩ := x; exact ⟨z, y, vs, r, ob, es, ep, k _ _ (.inl rfl) e, c⟩
  | dT kvs =>
    obtain ⟨z, y, xs, r, ob, es, ep, e, c⟩ := x
    exact ⟨z, y, xs, Paired.mapP r fun p q z => ⟨z.1, ht _ _ z.2.1, z.2.2⟩, ob, es, ep, k _ _ (.inl rfl) e, c⟩
  | set S n => obtain ⟨ob, es, ep, t, e, c⟩ := x; exact ⟨ob, es, ep, t, k _ _ (.inl rfl) e, c⟩
  | ins C dx fs =>
    obtain ⟨d, z, ne, e, mA, ⟨od, es, ep, e2, c⟩, r⟩ := x
    exact ⟨ho _ d, z, ne, k _ _ (.inl rfl) e, mA, ⟨od, es, ep, k _ _ (.inr d) e2, c⟩, r⟩
  | own y => obtain ⟨ob, e⟩ := x; exact ⟨ob, k _ _ (.inl rfl) e⟩
  | xd fs => obtain ⟨mA, ⟨od, es, ep, e, c⟩, r⟩ := x; exact ⟨mA, ⟨od, es, ep, k _ _ (.inl rfl) e, c⟩, r⟩
  | rng lo hi => obtain ⟨t, u, v, e⟩ := x; exact ⟨t, u, v, k _ _ (.inl rfl) e⟩
  | frz ob u ih => obtain ⟨e, q⟩ := x; exact ⟨k _ _ (.inl rfl) e, ih q⟩
  | tbl ps =>
    have e : h.get? a = some { cls := .none, data := .fields ps } := x
    show h'.get? a = some { cls := .none, data := .fields ps }
    exact k a _ (.inl rfl) e
  | met f y =>
    have e : h.get? a = some (PySem.W.methodObj (.ref f) (.ref y)) := x
    show h'.get? a = some (PySem.W.methodObj (.ref f) (.ref y))
    exact k a _ (.inl rfl) e
  | ext φ => obtain ⟨p, ⟨o, e⟩, st⟩ := x; exact ⟨st _ _ p fun o q => k _ _ (.inl rfl) q, ⟨o, k _ _ (.inl rfl) e⟩, st⟩
theorem HOk.lt (x : HOk P w H h) (e : H a = some o) : a < h.objs.size := (x a o e).lt
theorem HOk.fresh (x : HOk P w H h) (e : h.objs.size ≤ a) : H a = none := by
  cases q : H a with
  | none => rfl
  | some u => exact absurd (Nat.lt_of_lt_of_le (x.lt q) e) (Nat.lt_irrefl _)
theorem HOk.kept (x : HOk P w H h) (k : ∀ b u, h.get? b = some u → h'.get? b = some u) : HOk P w H h' := fun a o e =>
  (x a o e).stay (fun b u _ q => k b u q) (fun _ q => q) fun _ _ q => q
theorem HOk.laid (x : HOk P w H h) (k : ∀ b u, h.get? b = some u → h'.get? b = some u) (hp : h.objs.size ≤ a) (new : ObjOk P w (upd H a o) h' a o) : HOk P w (upd H a o) h' := fun b u e => by
  have hn := x.fresh hp
  by_cases hb : b = a
  · subst hb; rw [upd_same] at e; cases e; exact new
  · rw [upd_ne hb] at e
    exact (x b u e).stay (fun c v _ q => k c v q) (fun c q => by rw [upd_ne (ne_of_none q hn)]; exact q) fun c xs q => by rw [upd_ne (ne_of_none q hn)]; exact q
end

noncomputable def Rd (H : Hp) (a : Addr) (u : HO) : Prop := H a = some u ∨ ∃ o, H a = some (.frz o u)
theorem Rd.ok {P : Program} {w : World} {H : Hp} {h : Heap} {a : Addr} {u : HO} (r : Rd H a u) (x : HOk P w H h) : ObjOk P w H h a u := by
  rcases r with r | ⟨o, r⟩
  · exact x a u r
  · obtain ⟨_, q⟩ := x a _ r
    exact q
noncomputable def Mut : Option HO → Prop
  | some (.lst _) => True
  | some (.dK _) => True
  | some (.dT _) => True
  | some (.set _ _) => True
  | some (.ins _ _ _) => True
  | some (.ext _) => True
  | _ => False
section
variable {P : Program} {w : World} {H : Hp} {h h' : Heap} {x e : Addr} {o' : HO}
theorem HOk.write (ok : HOk P w H h) (mu : Mut (H x)) (he : e = x ∨ H e = some (.own x)) (k : ∀ b u, b ≠ e → h.get? b = some u → h'.get? b = some u) (heo : ∃ u, h'.get? e = some u)
    (new : ObjOk P w (upd H x o') h' x o') : HOk P w (upd H x o') h' := fun b u q => by
  have nown : ∀ c y, H c = some (.own y) → c ≠ x := fun c y r z => by subst z; rw [r] at mu; exact mu
  have ntup : ∀ c xs, H c = some (.tup xs) → c ≠ x := fun c xs r z => by subst z; rw [r] at mu; exact mu
  by_cases hb : b = x
  · subst hb; rw [upd_same] at q; cases q; exact new
  · rw [upd_ne hb] at q
    by_cases hbe : b = e
    · have q' : H b = some (.own x) := by
        rcases he with z | z
        · exact absurd (hbe.trans z) hb
        · rw [hbe]; exact z
      rw [q] at q'; cases q'
      obtain ⟨v, hv⟩ := heo
      exact ⟨v, by rw [hbe]; exact hv⟩
    · refine (ok b u q).stay (fun c v hc r => k c v ?_ r) (fun c r => by rw [upd_ne (nown c b r)]; exact r) fun c xs r => by rw [upd_ne (ntup c xs r)]; exact r
      rcases hc with rfl | hc
      · exact hbe
      · rintro rfl
        rcases he with z | z
        · exact nown c b hc z
        · rw [hc] at z; cases z; exact hb rfl
end

/-! ### kept unless tracked; of the frames at fs (the callers') the slots may change (an exception that passes writes there); of the records at ex (iterators) nothing is said -/
structure Un (fs ex : List Addr) (H H' : Hp) (h h' : Heap) : Prop where
  keep : ∀ b o, h.get? b = some o → H b = none → b ∉ fs → b ∉ ex → h'.get? b = some o
  slot : ∀ b o, h.get? b = some o → H b = none → b ∈ fs → b ∉ ex → ∃ sl, h'.get? b = some { o with slots := sl }
  free : ∀ b o, h.get? b = some o → H b = none → b ∉ ex → H' b = none
  there : ∀ b o, h.get? b = some o → b ∉ ex → ∃ o', h'.get? b = some o'
  tups : ∀ b xs, H b = some (.tup xs) → H' b = some (.tup xs)
  frzs : ∀ b o u, H b = some (.frz o u) → H' b = some (.frz o u)
  tbls : ∀ b ps, H b = some (.tbl ps) → ∃ more, H' b = some (.tbl (ps ++ more))
section
variable {fs fs' ex ex' : List Addr} {H H1 H2 : Hp} {h h1 h2 h' : Heap} {a x e : Addr} {o : HO}
theorem Un.any (u : Un fs ex H H1 h h1) {b : Addr} {ob : Obj} (q : h.get? b = some ob) (n : H b = none) (hx : b ∉ ex) : ∃ sl, h1.get? b = some { ob with slots := sl } := by
  by_cases hb : b ∈ fs
  · exact u.slot b ob q n hb hx
  · exact ⟨ob.slots, u.keep b ob q n hb hx⟩
theorem Un.trans (a : Un fs ex H H1 h h1) (b : Un fs ex H1 H2 h1 h2) : Un fs ex H H2 h h2 where
  keep := fun c ob q n hc hx => b.keep c ob (a.keep c ob q n hc hx) (a.free c ob q n hx) hc hx
  slot := fun c ob q n hc hx => by
    obtain ⟨sl, e1⟩ := a.slot c ob q n hc hx
    obtain ⟨sl', e2⟩ := b.slot c _ e1 (a.free c ob q n hx) hc hx
    exact ⟨sl', e2⟩
  free := fun c ob q n hx => by
    obtain ⟨o', e1⟩ := a.there c ob q hx
    exact b.free c o' e1 (a.free c ob q n hx) hx
  there := fun c ob q hx => by
    obtain ⟨o', e1⟩ := a.there c ob q hx
    exact b.there c o' e1 hx
  tups := fun c xs q => b.tups c xs (a.tups c xs q)
  frzs := fun c ob xs q => b.frzs c ob xs (a.frzs c ob xs q)
  tbls := fun c ps q => by
    obtain ⟨m1, e1⟩ := a.tbls c ps q
    obtain ⟨m2, e2⟩ := b.tbls c _ e1
    exact ⟨m1 ++ m2, by rw [e2, Array.append_assoc]⟩
theorem Un.kept (k : ∀ b u, h.get? b = some u → h'.get? b = some u) : Un fs ex H H h h' :=
  ⟨fun b ob q _ _ _ => k b ob q, fun b ob q _ _ _ => ⟨ob.slots, k b ob q⟩, fun _ _ _ n _ => n, fun b ob q _ => ⟨ob, k b ob q⟩, fun _ _ q => q, fun _ _ _ q => q, fun _ ps q => ⟨#[], by rw [q]; simp⟩⟩
theorem Un.refl : Un fs ex H H h h := Un.kept fun _ _ q => q
theorem Un.laid (k : ∀ b u, h.get? b = some u → h'.get? b = some u) (hp : h.objs.size ≤ a) (hn : H a = none) : Un fs ex H (upd H a o) h h' where
  keep := fun b u q _ _ _ => k b u q
  slot := fun b u q _ _ _ => ⟨u.slots, k b u q⟩
  free := fun b u q n _ => by rw [upd_ne (Nat.ne_of_lt (Nat.lt_of_lt_of_le (Heap.lt_size q) hp))]; exact n
  there := fun b u q _ => ⟨u, k b u q⟩
  tups := fun b xs q => by rw [upd_ne (ne_of_none q hn)]; exact q
  frzs := fun b u xs q => by rw [upd_ne (ne_of_none q hn)]; exact q
  tbls := fun b ps q => ⟨#[], by rw [upd_ne (ne_of_none q hn), q]; simp⟩
theorem Un.write (mu : Mut (H x)) (he : e = x ∨ H e = some (.own x)) (k : ∀ b u, b ≠ e → h.get? b = some u → h'.get? b = some u) (heo : ∃ u, h'.get? e = some u) : Un fs ex H (upd H x o) h h' := by
  have hx : ∀ b, H b = none → b ≠ x := fun b n z => by subst z; rw [n] at mu; exact mu
  have hb : ∀ b, H b = none → b ≠ e := fun b n z => by
    subst z
    rcases he with r | r
    · exact hx b n r
    · rw [n] at r; cases r
  have hm : ∀ b u, H b = some u → ¬ Mut (some u) → b ≠ x := fun b u q nm z => by subst z; rw [q] at mu; exact nm mu
  refine ⟨fun b u q n _ _ => k b u (hb b n) q, fun b u q n _ _ => ⟨u.slots, k b u (hb b n) q⟩, fun b u q n _ => by rw [upd_ne (hx b n)]; exact n, fun b u q _ => ?_,
    fun b xs q => by rw [upd_ne (hm b _ q fun z => z)]; exact q, fun b u xs q => by rw [upd_ne (hm b _ q fun z => z)]; exact q, fun b ps q => ⟨#[], by rw [upd_ne (hm b _ q fun z => z), q]; simp⟩⟩
  by_cases hbe : b = e
  · subst hbe; exact heo
  · exact ⟨u, k b u hbe q⟩
end

/-! ### the heap without what is tracked -/
noncomputable def trk (h : Heap) (H : Hp) : List Addr := (List.range h.objs.size).filter fun a => (H a).isSome
noncomputable def hidT (h : Heap) (H : Hp) : Heap := PySem.W.hideAll h (trk h H)
theorem hidT_size (h : Heap) (H : Hp) : (hidT h H).objs.size = h.objs.size := PySem.W.hideAll_size _ _
theorem hidT_get {h : Heap} {H : Hp} {b : Addr} {o : Obj} (e : h.get? b = some o) (n : H b = none) : (hidT h H).get? b = some o :=
  PySem.W.hideAll_get _ e fun hm => by
    have q : (H b).isSome = true := (List.mem_filter.mp hm).2
    rw [n] at q; simp at q
theorem of_hidT {h : Heap} {H : Hp} {b : Addr} {o : Obj} (e : (hidT h H).get? b = some o) : h.get? b = some o ∧ H b = none := by
  have e' : h.get? b = some o := PySem.W.of_hideAll (trk h H) e
  refine ⟨e', ?_⟩
  cases q : H b with
  | none => rfl
  | some x =>
    have hm : b ∈ trk h H := List.mem_filter.mpr ⟨List.mem_range.mpr (Heap.lt_size e'), by simp [q]⟩
    have z : (hidT h H).get? b = none := PySem.W.hideAll_none (trk h H) hm
    rw [z] at e; cases e

/-! ### OpenK's ledger, filled with every new object but one -/
noncomputable def allNews (g h : Heap) (L : Addr) : List (Addr × Obj) := (List.range h.objs.size).filterMap fun a => if a = L ∨ (g.get? a).isSome = true then none else (h.get? a).map fun o => (a, o)
noncomputable def rest (g h : Heap) (L d : Addr) : List (Addr × Obj) := (allNews g h L).filter fun p => decide (p.1 ≠ d)
end L2

namespace L2
open PySem PySem.Spec PyProof.Rows

structure Mod (K : PySem.W.Frag) (mg : Str → Option Value) (base : Heap) : Prop where
  kin : K.In base
  glob : base.Ns mainGlobals mg
  blt : ∃ mb, base.Ns builtinsNs mb ∧ ∀ x : Str, x ≠ "__name__" → mb x = bootBuiltins x
  nolimit : base.NoLimit

/-- the context: a def's body (or a comprehension's block) running. base: fixed through the whole law; s₀, H₀: the entry; outer: the frames whose slots others may change (a def's callers); stack: all frames that run;
   ex: iterators that were made ahead of the entry and are walked here (a comprehension's); fn: the names whose cells were made at the entry (a def: all; a comprehension's block: its own); calm: not within an except suite; pn: pins that every state bears; xe: what is wanted of an exception that leaves the code -/
structure Cx where
  prog : Program
  w : World
  K : PySem.W.Frag
  mg : Str → Option Value
  base : Heap
  A : Around
  N : List Str
  s₀ : Shared
  H₀ : Hp
  env : Env
  outer : List Env
  stack : List Env
  ex : List Addr
  fn : Str → Bool
  calm : Bool
  pn : List (Addr × Obj)
  xe : Value → Shared → Prop
noncomputable def frs (l : List Env) : List Addr := l.filterMap (·.frame)
noncomputable abbrev Cx.fs (X : Cx) : List Addr := frs X.outer

noncomputable def Vis (sc : Scope) (x : Str) : Prop := sc.names.lookup x = some .local ∨ sc.names.lookup x = some .cell ∨ sc.names.lookup x = some .free
noncomputable def Loc (sc : Scope) (x : Str) : Prop := sc.names.lookup x = some .local ∨ sc.names.lookup x = some .cell
noncomputable def Look (env : Env) (h : Heap) (m : Str → Option Value) (x : Str) (u : Value) : Prop :=
  (env.kindOf x = some .local ∧ m x = some u) ∨ ((env.kindOf x = some .cell ∨ env.kindOf x = some .free) ∧ ∃ c, env.cells.lookup x = some c ∧ h.IsCell c (some u))

structure Cx.Ok (X : Cx) : Prop where
  mod : Mod X.K X.mg X.base
  kind : X.env.scope.kind = .function
  glob : X.env.globals = mainGlobals
  blt : X.env.builtins = builtinsNs
  above : X.s₀.heap.objs.size ≤ X.env.locals
  inj : ∀ x y c, X.env.cells.lookup x = some c → X.env.cells.lookup y = some c → x = y
  has : ∀ x, (X.env.kindOf x = some .cell ∨ X.env.kindOf x = some .free) → ∃ c, X.env.cells.lookup x = some c
  cab : ∀ x c, X.fn x = true → X.env.cells.lookup x = some c → X.s₀.heap.objs.size ≤ c
  hd : X.calm = true → X.A.handled = none
  frames : X.A.frames = some X.stack
  stk : X.stack = X.outer ∨ (X.stack = X.env :: X.outer ∧ X.env.frame = some X.env.locals)
  exf : ∀ b ∈ X.ex, b ≠ X.env.locals ∧ ∀ x c, X.env.cells.lookup x = some c → c ≠ b
  bs : ∀ b o, X.base.get? b = some o → X.s₀.heap.get? b = some o ∧ X.H₀ b = none
  bsz : X.base.objs.size ≤ X.s₀.heap.objs.size
  noex : ∀ b o, X.base.get? b = some o → b ∉ X.ex
  exfs : ∀ b ∈ X.ex, b ∉ X.fs
  funs : X.s₀.heap.FunFrames X.base X.outer
  frf : ∀ b ∈ X.fs, X.H₀ b = none

structure Inv (X : Cx) (pins : List (Addr × Obj)) (σ : List (Option V)) (H : Hp) (s : Shared) : Prop where
  ok : X.Ok
  os : s.os = X.s₀.os
  bare : AllBare s.gens
  base : Un X.fs X.ex X.H₀ H X.s₀.heap s.heap
  loc : ∃ m, s.heap.Ns X.env.locals m ∧ ∀ (i : Nat) (x : Str) (v : V), X.N[i]? = some x → σ[i]? = some (some v) → Vis X.env.scope x → ∃ u, RelV v u ∧ Look X.env s.heap m x u
  cell : ∀ x c, X.env.cells.lookup x = some c → ∃ v, s.heap.IsCell c v
  free : H X.env.locals = none
  freeC : ∀ x c, X.env.cells.lookup x = some c → H c = none
  pin : ∀ p ∈ X.pn ++ pins, s.heap.get? p.1 = some p.2 ∧ H p.1 = none ∧ p.1 ≠ X.env.locals ∧ p.1 ∉ X.fs ∧ ∀ v, p.2.data ≠ .cell v
  hok : HOk X.prog X.w H s.heap
  len : σ.length = X.N.length

section
variable {X : Cx} {pins : List (Addr × Obj)} {σ : List (Option V)} {H H' : Hp} {s : Shared} {h' : Heap}

theorem Cx.Ok.nofr (ok : X.Ok) {b : Addr} {o : Obj} (e : X.base.get? b = some o) : b ∉ X.fs := fun hb => by
  have := (ok.funs.mem hb).1
  rw [e] at this; cases this
theorem Inv.bs (I : Inv X pins σ H s) : ∀ b o, X.base.get? b = some o → s.heap.get? b = some o ∧ H b = none := fun b o e =>
  ⟨I.base.keep b o (I.ok.bs b o e).1 (I.ok.bs b o e).2 (I.ok.nofr e) (I.ok.noex b o e), I.base.free b o (I.ok.bs b o e).1 (I.ok.bs b o e).2 (I.ok.noex b o e)⟩
theorem Inv.bk (I : Inv X pins σ H s) : ∀ b o, X.base.get? b = some o → s.heap.get? b = some o := fun b o e => (I.bs b o e).1
theorem Inv.mod (I : Inv X pins σ H s) : Mod X.K X.mg X.base := I.ok.mod
theorem Inv.kIn (I : Inv X pins σ H s) : X.K.In s.heap := I.ok.mod.kin.keeps I.bk
theorem Inv.lt (I : Inv X pins σ H s) : X.env.locals < s.heap.objs.size := let ⟨_, hn, _⟩ := I.loc; hn.lt
theorem Inv.sz (I : Inv X pins σ H s) : X.s₀.heap.objs.size ≤ s.heap.objs.size := Nat.le_trans I.ok.above (Nat.le_of_lt I.lt)
theorem Inv.nofs (I : Inv X pins σ H s) {a : Addr} (h : s.heap.objs.size ≤ a) : a ∉ X.fs := fun hb => by
  obtain ⟨_, o, ho, _⟩ := I.ok.funs.mem hb
  exact absurd (Nat.lt_of_lt_of_le (Heap.lt_size ho) (Nat.le_trans I.sz h)) (Nat.lt_irrefl _)
theorem Inv.cne (I : Inv X pins σ H s) : ∀ x c, X.env.cells.lookup x = some c → c ≠ X.env.locals := fun x c e z => by
  obtain ⟨v, o, ho, hd⟩ := I.cell x c e
  obtain ⟨m, ⟨o', es, ep, ho', hd', _⟩, _⟩ := I.loc
  rw [z, ho'] at ho; cases ho; rw [hd'] at hd; cases hd
theorem Inv.funs (I : Inv X pins σ H s) : s.heap.FunFrames X.base X.outer := by
  have all : ∀ (l : List Env), (∀ b ∈ frs l, b ∈ X.fs) → X.s₀.heap.FunFrames X.base l → s.heap.FunFrames X.base l := by
    intro l
    induction l with
    | nil => intro _ _; trivial
    | cons env r ih =>
      intro hs hl
      obtain ⟨hk, ⟨L, o, hf, hn, ho, hd⟩, hr⟩ := hl
      have hL : L ∈ X.fs := hs L (by unfold frs; rw [List.filterMap_cons, hf]; exact List.mem_cons_self)
      obtain ⟨sl, e⟩ := I.base.slot L o ho (I.ok.frf L hL) hL fun z => I.ok.exfs L z hL
      exact ⟨hk, ⟨L, _, hf, hn, e, hd⟩, ih (fun b hb => hs b (by unfold frs; rw [List.filterMap_cons, hf]; exact List.mem_cons_of_mem _ hb)) hr⟩
  exact all X.outer (fun _ hb => hb) I.ok.funs

theorem Inv.stack (I : Inv X pins σ H s) : s.heap.FunFrames X.base X.stack := by
  rcases I.ok.stk with e | ⟨e, hf⟩
  · rw [e]; exact I.funs
  · rw [e]
    obtain ⟨m, hn, _⟩ := I.loc
    refine .cons (by rw [I.ok.kind]; decide) hf hn ?_ I.funs
    exact Heap.get?_none_of_le (Nat.le_trans I.ok.bsz I.ok.above)
theorem Inv.stkSub (I : Inv X pins σ H s) : ∀ b ∈ frs X.stack, b ∈ X.env.locals :: X.fs := fun b hb => by
  rcases I.ok.stk with e | ⟨e, hf⟩
  · rw [e] at hb; exact List.mem_cons_of_mem _ hb
  · rw [e] at hb
    unfold frs at hb
    rw [List.filterMap_cons, hf] at hb
    exact hb
theorem Inv.stkFree (I : Inv X pins σ H s) : ∀ b ∈ frs X.stack, H b = none := fun b hb => by
  rcases List.mem_cons.mp (I.stkSub b hb) with e | hb
  · rw [e]; exact I.free
  · obtain ⟨_, o, ho, _⟩ := I.ok.funs.mem hb
    exact I.base.free b o ho (I.ok.frf b hb) fun z => I.ok.exfs b z hb

theorem Inv.step {g' : Array GenState} {t' : Nat} {d' : Drawn} {ch : List Addr} (I : Inv X pins σ H s)
    (hch : ∀ b ∈ ch, (b ∈ X.ex ∨ X.s₀.heap.objs.size ≤ b) ∧ b ≠ X.env.locals ∧ (∀ x c, X.env.cells.lookup x = some c → c ≠ b) ∧ ∀ p ∈ X.pn ++ pins, p.1 ≠ b)
    (keep : ∀ b o, b ≠ X.env.locals → b ∉ X.fs → b ∉ ch → s.heap.get? b = some o → H b = none → h'.get? b = some o)
    (slot : ∀ b o, b ≠ X.env.locals → b ∈ X.fs → b ∉ ch → s.heap.get? b = some o → H b = none → ∃ sl, h'.get? b = some { o with slots := sl }) (free : ∀ b o, b ∉ ch → s.heap.get? b = some o → H b = none → H' b = none)
    (there : ∀ b o, b ∉ ch → s.heap.get? b = some o → ∃ o', h'.get? b = some o')
    (tups : ∀ b xs, H b = some (.tup xs) → H' b = some (.tup xs)) (frzs : ∀ b o u, H b = some (.frz o u) → H' b = some (.frz o u)) (tbls : ∀ b ps, H b = some (.tbl ps) → ∃ more, H' b = some (.tbl (ps ++ more)))
    (ns : ∀ m, s.heap.Ns X.env.locals m → h'.Ns X.env.locals m) (hok : HOk X.prog X.w H' h') (hg : AllBare g') :
    Inv X pins σ H' { s with heap := h', gens := g', drawn := d', toks := t' } := by
  have neL : ∀ b o, X.s₀.heap.get? b = some o → b ≠ X.env.locals := fun b o e => Nat.ne_of_lt (Nat.lt_of_lt_of_le (Heap.lt_size e) I.ok.above)
  have neC : ∀ b o, X.s₀.heap.get? b = some o → b ∉ X.ex → b ∉ ch := fun b o e hx hb => by
    rcases (hch b hb).1 with z | z
    · exact hx z
    · exact absurd (Nat.lt_of_lt_of_le (Heap.lt_size e) z) (Nat.lt_irrefl _)
  have cellK : ∀ x c, X.env.cells.lookup x = some c → ∀ v, s.heap.IsCell c v → h'.IsCell c v := fun x c e v ⟨o, ho, hd⟩ => by
    have nch : c ∉ ch := fun z => (hch c z).2.2.1 x c e rfl
    by_cases hc : c ∈ X.fs
    · obtain ⟨sl, q⟩ := slot c o (I.cne x c e) hc nch ho (I.freeC x c e)
      exact ⟨_, q, hd⟩
    · exact ⟨o, keep c o (I.cne x c e) hc nch ho (I.freeC x c e), hd⟩
  refine ⟨I.ok, I.os, hg, ⟨fun b o e n hb hx => ?_, fun b o e n hb hx => ?_, fun b o e n hx => ?_, fun b o e hx => ?_, fun b xs e => tups b xs (I.base.tups b xs e), fun b o xs e => frzs b o xs (I.base.frzs b o xs e), fun b ps e => ?_⟩, ?_, fun x c e => ?_, ?_, fun x c e => ?_, fun p hp => ?_, hok, I.len⟩
  · exact keep b o (neL b o e) hb (neC b o e hx) (I.base.keep b o e n hb hx) (I.base.free b o e n hx)
  · obtain ⟨sl, e1⟩ := I.base.slot b o e n hb hx
    obtain ⟨sl', e2⟩ := slot b _ (neL b o e) hb (neC b o e hx) e1 (I.base.free b o e n hx)
    exact ⟨sl', e2⟩
  · obtain ⟨o', e1⟩ := I.base.there b o e hx
    exact free b o' (neC b o e hx) e1 (I.base.free b o e n hx)
  · obtain ⟨o', e1⟩ := I.base.there b o e hx
    exact there b o' (neC b o e hx) e1
  · obtain ⟨m1, e1⟩ := I.base.tbls b ps e
    obtain ⟨m2, e2⟩ := tbls b _ e1
    exact ⟨m1 ++ m2, by rw [e2, Array.append_assoc]⟩
  · obtain ⟨m, hn, hl⟩ := I.loc
    refine ⟨m, ns m hn, fun i x v e1 e2 e3 => ?_⟩
    obtain ⟨u, r, l⟩ := hl i x v e1 e2 e3
    refine ⟨u, r, ?_⟩
    rcases l with l | ⟨k, c, e, z⟩
    · exact .inl l
    · exact .inr ⟨k, c, e, cellK x c e _ z⟩
  · obtain ⟨v, z⟩ := I.cell x c e
    exact ⟨v, cellK x c e v z⟩
  · obtain ⟨m, ⟨o, _, _, ho, _⟩, _⟩ := I.loc
    exact free _ o (fun z => (hch _ z).2.1 rfl) ho I.free
  · obtain ⟨v, o, ho, hd⟩ := I.cell x c e
    exact free c o (fun z => (hch c z).2.2.1 x c e rfl) ho (I.freeC x c e)
  · obtain ⟨e, n, ne, nf, d⟩ := I.pin p hp
    have nch : p.1 ∉ ch := fun z => (hch p.1 z).2.2.2 p hp rfl
    exact ⟨keep p.1 p.2 ne nf nch e n, free p.1 p.2 nch e n, ne, nf, d⟩
theorem Inv.un {t' : Nat} (I : Inv X pins σ H s) (u : Un X.fs [] H H' s.heap h') (hok : HOk X.prog X.w H' h') : Inv X pins σ H' { s with heap := h', toks := t' } := by
  obtain ⟨m, ⟨o, es, ep, ho, r⟩, _⟩ := id I.loc
  obtain ⟨sl, hL⟩ := u.any ho I.free (by simp)
  exact I.step (g' := s.gens) (d' := s.drawn) (ch := []) (fun _ z => nomatch z) (fun b o _ hb _ e n => u.keep b o e n hb (by simp)) (fun b o _ hb _ e n => u.slot b o e n hb (by simp)) (fun b o _ e n => u.free b o e n (by simp)) (fun b o _ e => u.there b o e (by simp)) u.tups u.frzs u.tbls (fun m' hm => by
    obtain ⟨o', es', ep', ho', r'⟩ := hm
    rw [ho] at ho'; cases ho'
    exact ⟨_, es', ep', hL, r'⟩) hok I.bare
theorem Inv.call {g' : Array GenState} {t' : Nat} {d' : Drawn} {ch : List Addr} (I : Inv X pins σ H s) (u : Un (frs X.stack) ch H H' s.heap h') (hok : HOk X.prog X.w H' h') (hg : AllBare g')
    (hch : ∀ b ∈ ch, (b ∈ X.ex ∨ X.s₀.heap.objs.size ≤ b) ∧ b ≠ X.env.locals ∧ (∀ x c, X.env.cells.lookup x = some c → c ≠ b) ∧ ∀ p ∈ X.pn ++ pins, p.1 ≠ b) :
    Inv X pins σ H' { s with heap := h', gens := g', drawn := d', toks := t' } := by
  obtain ⟨m, ⟨o, es, ep, ho, r⟩, _⟩ := id I.loc
  obtain ⟨sl, hL⟩ := u.any ho I.free fun z => (hch _ z).2.1 rfl
  exact I.step (ch := ch) hch (fun b o hL hb hc e n => u.keep b o e n (fun z => (List.mem_cons.mp (I.stkSub b z)).elim hL hb) hc) (fun b o _ _ hc e n => u.any e n hc) (fun b o hc e n => u.free b o e n hc) (fun b o hc e => u.there b o e hc) u.tups u.frzs u.tbls (fun m' hm => by
    obtain ⟨o', es', ep', ho', r'⟩ := hm
    rw [ho] at ho'; cases ho'
    exact ⟨_, es', ep', hL, r'⟩) hok hg
theorem Inv.turned {t' : Nat} {it : Addr} (I : Inv X pins σ H s) (k : ∀ b o, b ≠ it → s.heap.get? b = some o → h'.get? b = some o) (hn : H it = none) (hL : it ≠ X.env.locals)
    (h1 : it ∈ X.ex ∨ X.s₀.heap.objs.size ≤ it) (h2 : ∀ x c, X.env.cells.lookup x = some c → c ≠ it) (h3 : ∀ p ∈ X.pn ++ pins, p.1 ≠ it) : Inv X pins σ H { s with heap := h', toks := t' } := by
  have nit : ∀ b u, H b = some u → b ≠ it := fun b u e z => by rw [z, hn] at e; cases e
  refine I.step (g' := s.gens) (d' := s.drawn) (ch := [it]) (fun b hb => ?_) (fun b o _ _ hc e _ => k b o (fun z => hc (by simp [z])) e) (fun b o _ _ hc e _ => ⟨o.slots, k b o (fun z => hc (by simp [z])) e⟩) (fun _ _ _ _ n => n)
    (fun b o hc e => ⟨o, k b o (fun z => hc (by simp [z])) e⟩) (fun _ _ e => e) (fun _ _ _ e => e) (fun b ps e => ⟨#[], by rw [e]; simp⟩) (fun m hm => ?_) (fun b u e => ?_) I.bare
  · have e : b = it := by simpa using hb
    subst e
    exact ⟨h1, hL, h2, h3⟩
  · obtain ⟨o, es, ep, ho, r⟩ := hm
    exact ⟨o, es, ep, k _ o (Ne.symm hL) ho, r⟩
  · refine (I.hok b u e).stay (fun c v hc q => k c v ?_ q) (fun _ q => q) fun _ _ q => q
    rcases hc with z | z
    · rw [z]; exact nit b u e
    · exact nit c _ z
theorem Inv.tok (I : Inv X pins σ H s) (t : Nat) : Inv X pins σ H { s with toks := t } := I.un (h' := s.heap) (t' := t) Un.refl I.hok
theorem Inv.kept {t' : Nat} (I : Inv X pins σ H s) (k : ∀ b u, s.heap.get? b = some u → h'.get? b = some u) : Inv X pins σ H { s with heap := h', toks := t' } := I.un (Un.kept k) (I.hok.kept k)
theorem Inv.laid {a : Addr} {o : HO} {t' : Nat} (I : Inv X pins σ H s) (k : ∀ b u, s.heap.get? b = some u → h'.get? b = some u) (hp : s.heap.objs.size ≤ a) (new : ObjOk X.prog X.w (upd H a o) h' a o) :
    Inv X pins σ (upd H a o) { s with heap := h', toks := t' } := I.un (Un.laid k hp (I.hok.fresh hp)) (I.hok.laid k hp new)
theorem Inv.write {x e : Addr} {o : HO} {t' : Nat} (I : Inv X pins σ H s) (mu : Mut (H x)) (he : e = x ∨ H e = some (.own x)) (k : ∀ b u, b ≠ e → s.heap.get? b = some u → h'.get? b = some u) (heo : ∃ u, h'.get? e = some u)
    (new : ObjOk X.prog X.w (upd H x o) h' x o) : Inv X pins σ (upd H x o) { s with heap := h', toks := t' } := I.un (Un.write mu he k heo) (I.hok.write mu he k heo new)
theorem Inv.pins_of {pins' : List (Addr × Obj)} (I : Inv X pins σ H s) (h : ∀ p ∈ pins', s.heap.get? p.1 = some p.2 ∧ H p.1 = none ∧ p.1 ≠ X.env.locals ∧ p.1 ∉ X.fs ∧ ∀ v, p.2.data ≠ .cell v) : Inv X pins' σ H s :=
  ⟨I.ok, I.os, I.bare, I.base, I.loc, I.cell, I.free, I.freeC, fun p hp => (List.mem_append.mp hp).elim (fun z => I.pin p (List.mem_append_left _ z)) (h p), I.hok, I.len⟩

theorem nodup_ix {N : List Str} (hN : N.Nodup) {i j : Nat} {x : Str} (a : N[i]? = some x) (b : N[j]? = some x) : i = j := by
  obtain ⟨h1, e1⟩ := List.getElem?_eq_some_iff.mp a
  obtain ⟨h2, e2⟩ := List.getElem?_eq_some_iff.mp b
  exact (List.getElem_inj hN).mp (e1.trans e2.symm)

theorem store_ok2 {M : Model} {A : Around} {E : Value → Shared → Prop} {i : Nat} {x : Str} {v : V} {u : Value} {Q : Unit → Shared → Prop} (I : Inv X pins σ H s) (hN : X.N.Nodup) (hi : X.N[i]? = some x) (hx : Loc X.env.scope x) (r : RelV v u)
    (h : ∀ s', Inv X pins (σ.set i (some v)) H s' → (∃ a, Heap.SameBut a s.heap s'.heap ∧ (a = X.env.locals ∨ X.env.cells.lookup x = some a)) → Q () s') (hf : X.fn x = true ∨ X.env.scope.names.lookup x = some .local := by first | exact .inl rfl | exact .inr rfl | assumption) : wpAny M A (storeName X.env x u) Q E s := by
  obtain ⟨m, hn, hl⟩ := id I.loc
  have hcls : (X.env.scope.kind == .class || (X.env.scope.kind == .module && X.env.locals != X.env.globals)) = false := by rw [I.ok.kind]; rfl
  have hiσ : i < σ.length := by rw [I.len]; exact (List.getElem?_eq_some_iff.mp hi).1
  have cne := I.cne
  have tracked : ∀ {a : Addr} {h' : Heap}, (∃ o, s.heap.get? a = some o ∧ H a = none) → Heap.SameBut a s.heap h' → HOk X.prog X.w H h' := fun {a h'} ha hs b ob e => by
    obtain ⟨_, _, hfree⟩ := ha
    refine (I.hok b ob e).stay (fun c w' hc q => (hs.2 c ?_).trans q) (fun _ q => q) fun _ _ q => q
    rintro rfl
    rcases hc with rfl | hc
    · rw [hfree] at e; cases e
    · rw [hfree] at hc; cases hc
  rcases hx with hk | hk
  · refine wpAny_storeName_local hk hn (fun h' hn' hs => ?_) hcls
    obtain ⟨oL, _, _, hoL, _⟩ := id hn
    refine h _ ⟨I.ok, I.os, I.bare, ⟨fun b o e n hb hx => ?_, fun b o e n hb hx => ?_, I.base.free, fun b o e hx => ?_, I.base.tups, I.base.frzs, I.base.tbls⟩, ⟨_, hn', fun j y v' e1 e2 e3 => ?_⟩, fun y c e => ?_, I.free, I.freeC, fun p hp => ?_, tracked ⟨oL, hoL, I.free⟩ hs, by simpa using I.len⟩ ⟨_, hs, .inl rfl⟩
    · exact (hs.2 b (Nat.ne_of_lt (Nat.lt_of_lt_of_le (Heap.lt_size e) I.ok.above))).trans (I.base.keep b o e n hb hx)
    · obtain ⟨sl, e1⟩ := I.base.slot b o e n hb hx
      exact ⟨sl, (hs.2 b (Nat.ne_of_lt (Nat.lt_of_lt_of_le (Heap.lt_size e) I.ok.above))).trans e1⟩
    · obtain ⟨o', e1⟩ := I.base.there b o e hx
      exact ⟨o', (hs.2 b (Nat.ne_of_lt (Nat.lt_of_lt_of_le (Heap.lt_size e) I.ok.above))).trans e1⟩
    · by_cases hj : j = i
      · subst hj
        rw [hi] at e1; cases e1
        rw [List.getElem?_set_self hiσ] at e2
        cases e2
        exact ⟨u, r, .inl ⟨hk, by simp⟩⟩
      · rw [List.getElem?_set_ne (Ne.symm hj)] at e2
        obtain ⟨u', r', q⟩ := hl j y v' e1 e2 e3
        refine ⟨u', r', ?_⟩
        rcases q with ⟨k, e⟩ | ⟨k, c, e, z⟩
        · refine .inl ⟨k, ?_⟩
          have : y ≠ x := fun e => hj (nodup_ix hN e1 (e ▸ hi))
          simp [this, e]
        · exact .inr ⟨k, c, e, z.sameBut hs (cne y c e)⟩
    · obtain ⟨w', z⟩ := I.cell y c e
      exact ⟨w', z.sameBut hs (cne y c e)⟩
    · obtain ⟨e, n, ne, nf, d⟩ := I.pin p hp
      exact ⟨(hs.2 p.1 ne).trans e, n, ne, nf, d⟩
  · have hfn : X.fn x = true := by
      rcases hf with z | z
      · exact z
      · rw [z] at hk; cases hk
    obtain ⟨c, hc⟩ := I.ok.has x (.inl hk)
    obtain ⟨w', z⟩ := I.cell x c hc
    refine wpAny_storeName_cell I.ok.kind hk hc z (fun h' hc' hs => ?_)
    obtain ⟨oc, hoc, hocd⟩ := id z
    refine h { s with heap := h' } ⟨I.ok, I.os, I.bare, ⟨fun b o e n hb hx => ?_, fun b o e n hb hx => ?_, I.base.free, fun b o e hx => ?_, I.base.tups, I.base.frzs, I.base.tbls⟩, ⟨m, hn.sameBut hs (Ne.symm (cne x c hc)), fun j y v' e1 e2 e3 => ?_⟩, fun y c' e => ?_, I.free, I.freeC, fun p hp => ?_, tracked ⟨oc, hoc, I.freeC x c hc⟩ hs, by simpa using I.len⟩ ⟨c, hs, .inr hc⟩
    · exact (hs.2 b (Nat.ne_of_lt (Nat.lt_of_lt_of_le (Heap.lt_size e) (I.ok.cab x c hfn hc)))).trans (I.base.keep b o e n hb hx)
    · obtain ⟨sl, e1⟩ := I.base.slot b o e n hb hx
      exact ⟨sl, (hs.2 b (Nat.ne_of_lt (Nat.lt_of_lt_of_le (Heap.lt_size e) (I.ok.cab x c hfn hc)))).trans e1⟩
    · obtain ⟨o', e1⟩ := I.base.there b o e hx
      exact ⟨o', (hs.2 b (Nat.ne_of_lt (Nat.lt_of_lt_of_le (Heap.lt_size e) (I.ok.cab x c hfn hc)))).trans e1⟩
    · by_cases hj : j = i
      · subst hj
        rw [hi] at e1; cases e1
        rw [List.getElem?_set_self hiσ] at e2
        cases e2
        exact ⟨u, r, .inr ⟨.inl hk, c, hc, hc'⟩⟩
      · rw [List.getElem?_set_ne (Ne.symm hj)] at e2
        obtain ⟨u', r', q⟩ := hl j y v' e1 e2 e3
        refine ⟨u', r', ?_⟩
        rcases q with q | ⟨k, c', e, z'⟩
        · exact .inl q
        · refine .inr ⟨k, c', e, z'.sameBut hs ?_⟩
          rintro rfl
          exact hj (nodup_ix hN e1 (I.ok.inj _ _ _ e hc ▸ hi))
    · by_cases hcc : c' = c
      · subst hcc; exact ⟨_, hc'⟩
      · obtain ⟨w2, z2⟩ := I.cell y c' e
        exact ⟨w2, z2.sameBut hs hcc⟩
    · obtain ⟨e, n, ne, nf, d⟩ := I.pin p hp
      refine ⟨(hs.2 p.1 ?_).trans e, n, ne, nf, d⟩
      intro q
      rw [q, hoc] at e
      have q' : oc = p.2 := Option.some.inj e
      exact d w' (by rw [← q']; exact hocd)
theorem store_ok {M : Model} {A : Around} {E : Value → Shared → Prop} {i : Nat} {x : Str} {v : V} {u : Value} {Q : Unit → Shared → Prop} (I : Inv X pins σ H s) (hN : X.N.Nodup) (hi : X.N[i]? = some x) (hx : Loc X.env.scope x) (r : RelV v u)
    (h : ∀ s', Inv X pins (σ.set i (some v)) H s' → Q () s') (hf : X.fn x = true ∨ X.env.scope.names.lookup x = some .local := by first | exact .inl rfl | exact .inr rfl | assumption) : wpAny M A (storeName X.env x u) Q E s :=
  store_ok2 I hN hi hx r (fun s' I' _ => h s' I') hf
theorem Inv.call' {s' : Shared} {ch : List Addr} (I : Inv X pins σ H s) (ho : s'.os = s.os) (u : Un (frs X.stack) ch H H' s.heap s'.heap) (hok : HOk X.prog X.w H' s'.heap) (hg : AllBare s'.gens)
    (hch : ∀ b ∈ ch, (b ∈ X.ex ∨ X.s₀.heap.objs.size ≤ b) ∧ b ≠ X.env.locals ∧ (∀ x c, X.env.cells.lookup x = some c → c ≠ b) ∧ ∀ p ∈ X.pn ++ pins, p.1 ≠ b) : Inv X pins σ H' s' := by
  obtain ⟨h', g', d', t', o'⟩ := s'
  have e : o' = s.os := ho
  subst e
  exact I.call (g' := g') (t' := t') (d' := d') u hok hg hch
end

/-! ### the judgements -/
noncomputable abbrev XK := Value → Option Addr → Hp → Prop
noncomputable abbrev St := List (Option V)
noncomputable abbrev VK := V → Hp → Prop
noncomputable abbrev TE := St → Hp → VK → Prop
noncomputable abbrev TT := St → Hp → (Bool → Hp → Prop) → Prop
noncomputable abbrev TA := St → Hp → (List V → Hp → Prop) → Prop
structure Ends where
  nx : St → Hp → Prop
  rt : VK
  bk : St → Hp → Prop := fun _ _ => False
  ct : St → Hp → Prop := fun _ _ => False
noncomputable abbrev TS := Ends → St → Hp → Prop

noncomputable def EP (X : Cx) (pins : List (Addr × Obj)) (σ : St) (Q : VK) (u : Value) (s' : Shared) : Prop := ∃ v H', Inv X pins σ H' s' ∧ RelV v u ∧ Q v H'
noncomputable def TP (X : Cx) (pins : List (Addr × Obj)) (σ : St) (Q : Bool → Hp → Prop) (b : Bool) (s' : Shared) : Prop := ∃ H', Inv X pins σ H' s' ∧ Q b H'
noncomputable def AP (X : Cx) (pins : List (Addr × Obj)) (σ : St) (Q : List V → Hp → Prop) (us : List Value) (s' : Shared) : Prop := ∃ vs H', Inv X pins σ H' s' ∧ Vals vs us ∧ Q vs H'
noncomputable def SP (X : Cx) (pins : List (Addr × Obj)) (D : Ends) (f : Flow) (s' : Shared) : Prop :=
  match f with
  | .next => ∃ σ' H', Inv X pins σ' H' s' ∧ D.nx σ' H'
  | .brk => ∃ σ' H', Inv X pins σ' H' s' ∧ D.bk σ' H'
  | .cont => ∃ σ' H', Inv X pins σ' H' s' ∧ D.ct σ' H'
  | .ret u => ∃ v σ' H', Inv X pins σ' H' s' ∧ RelV v u ∧ D.rt v H'

noncomputable def PE (X : Cx) (e : Expr) (t : TE) : Prop :=
  ∀ (pins : List (Addr × Obj)) (s : Shared) (σ : St) (H : Hp) (Q : VK), Inv X pins σ H s → t σ H Q → wpAny (model X.prog X.w) X.A (eval e X.env) (EP X pins σ Q) X.xe s
noncomputable def PT (X : Cx) (e : Expr) (t : TT) : Prop :=
  ∀ (pins : List (Addr × Obj)) (s : Shared) (σ : St) (H : Hp) (Q : Bool → Hp → Prop), Inv X pins σ H s → t σ H Q → wpAny (model X.prog X.w) X.A (isTrue e X.env (eval e X.env)) (TP X pins σ Q) X.xe s
noncomputable def PW (X : Cx) (e : Expr) (t : TT) : Prop :=
  ∀ (whole : Sem Value) (pins : List (Addr × Obj)) (s : Shared) (σ : St) (H : Hp) (Q : Bool → Hp → Prop), Inv X pins σ H s → t σ H Q → wpAny (model X.prog X.w) X.A (isTrue e X.env whole) (TP X pins σ Q) X.xe s
theorem PW.pt {X : Cx} {e : Expr} {t : TT} (h : PW X e t) : PT X e t := h _
noncomputable def PA (X : Cx) (es : List Expr) (t : TA) : Prop :=
  ∀ (pos : Pos) (pins : List (Addr × Obj)) (s : Shared) (σ : St) (H : Hp) (Q : List V → Hp → Prop), Inv X pins σ H s → t σ H Q → wpAny (model X.prog X.w) X.A (spliced (backTo pos (starEach es X.env))) (AP X pins σ Q) X.xe s
noncomputable def PS (X : Cx) (st : Stmt) (t : TS) : Prop :=
  ∀ (pins : List (Addr × Obj)) (s : Shared) (σ : St) (H : Hp) (D : Ends), Inv X pins σ H s → t D σ H → wpAny (model X.prog X.w) X.A (exec st X.env) (SP X pins D) X.xe s
noncomputable def PSs (X : Cx) (st : List Stmt) (t : TS) : Prop :=
  ∀ (pins : List (Addr × Obj)) (s : Shared) (σ : St) (H : Hp) (D : Ends), Inv X pins σ H s → t D σ H → wpAny (model X.prog X.w) X.A (execs st X.env) (SP X pins D) X.xe s
theorem thn {α : Type} {t : Sem α} {Q Q' : α → Shared → Prop} {M : Model} {A : Around} {E : Value → Shared → Prop} {s : Shared} (h : wpAny M A t Q E s) (hQ : ∀ a s, Q a s → Q' a s) : wpAny M A t Q' E s := wpAny_mono h hQ fun _ _ x => x
end L2

namespace L2
open PySem PySem.Spec PyProof.Rows
section
variable {X : Cx}

/-! ### names and constants -/
noncomputable def tVar (i : Nat) : TE := fun σ H Q => ∃ v, σ[i]? = some (some v) ∧ Q v H
noncomputable def tC (v : V) : TE := fun _ H Q => Q v H
theorem pe_var {i : Nat} {x : Str} {pos : Pos} (hN : X.N[i]? = some x) (hv : Vis X.env.scope x) (hd : (x == ("__debug__" : Str)) = false := by decide) (hcd : (x == ("__classdict__" : Str)) = false := by decide) : PE X (.Name x pos) (tVar i) := by
  intro pins s σ H Q I h
  obtain ⟨v, e, h⟩ := h
  obtain ⟨m, hn, hl⟩ := I.loc
  obtain ⟨u, r, l⟩ := hl i x v hN e hv
  have fin : EP X pins σ Q u s := ⟨v, H, I, r, h⟩
  rcases l with ⟨hk, hm⟩ | ⟨hk, c, hc, hcell⟩
  · exact wpAny_Name (wpAny_loadName_local I.ok.kind hk hn hm fin) hd
  · rcases hk with hk | hk
    · exact wpAny_Name (wpAny_loadName_cell I.ok.kind hk hc hcell fin) hd
    · exact wpAny_Name (wpAny_loadName_free I.ok.kind hk hc hcell fin hcd) hd
theorem pe_int {i j pos} : PE X (.Constant (.int i) j pos) (tC (.int i)) := fun _ _ _ H _ I h => wpAny_Constant_int ⟨.int i, H, I.tok _, ⟨_, rfl⟩, h⟩
theorem pe_bl {b j pos} : PE X (.Constant (.bool b) j pos) (tC (.bl b)) := fun _ _ _ H _ I h => Constant_bool ⟨.bl b, H, I, rfl, h⟩
theorem pe_non {j pos} : PE X (.Constant .none j pos) (tC .non) := fun _ _ _ H _ I h => Constant_none ⟨.non, H, I, rfl, h⟩
theorem pe_str {x j pos} : PE X (.Constant (.str x) j pos) (tC (.str x)) := fun _ _ _ H _ I h => Calls.Constant_str ⟨.str x, H, I.tok _, ⟨_, rfl⟩, h⟩

noncomputable def Gl (X : Cx) (x : Str) : Prop := X.env.kindOf x = some .globalImplicit
theorem ld_glob {E : Value → Shared → Prop} {pins : List (Addr × Obj)} {s : Shared} {σ : St} {H : Hp} {x : Str} {u : Value} {pos : Pos} {Q : Value → Shared → Prop} (I : Inv X pins σ H s) (hg : Gl X x) (hm : X.mg x = some u) (h : Q u s)
    (hd : (x == ("__debug__" : Str)) = false := by decide) : wpAny (model X.prog X.w) X.A (eval (.Name x pos) X.env) Q E s :=
  Calls.Name_function_global I.ok.kind hg (Calls.loadGlobal_global (by rw [I.ok.glob]; exact I.mod.glob.keeps I.bk) hm h) hd
theorem ld_blt {E : Value → Shared → Prop} {pins : List (Addr × Obj)} {s : Shared} {σ : St} {H : Hp} {x : Str} {u : Value} {pos : Pos} {Q : Value → Shared → Prop} (I : Inv X pins σ H s) (hg : Gl X x) (hm : X.mg x = none) (hv : bootBuiltins x = some u) (h : Q u s)
    (hn : x ≠ "__name__" := by decide) (hd : (x == ("__debug__" : Str)) = false := by decide) : wpAny (model X.prog X.w) X.A (eval (.Name x pos) X.env) Q E s := by
  obtain ⟨mb, h1, h2⟩ := I.mod.blt
  exact Calls.Name_function_global I.ok.kind hg (Calls.loadGlobal_builtin (by rw [I.ok.glob]; exact I.mod.glob.keeps I.bk) hm (by rw [I.ok.blt]; exact h1.keeps I.bk) ((h2 x hn).trans hv) h) hd
theorem pe_glob {x : Str} {v : V} {u : Value} {pos : Pos} (hg : Gl X x) (hm : X.mg x = some u) (r : RelV v u) (hd : (x == ("__debug__" : Str)) = false := by decide) : PE X (.Name x pos) (tC v) :=
  fun _ _ _ H _ I h => ld_glob I hg hm ⟨v, H, I, r, h⟩ hd
theorem pe_bltn {x : Str} {v : V} {u : Value} {pos : Pos} (hg : Gl X x) (hm : X.mg x = none) (hv : bootBuiltins x = some u) (r : RelV v u) (hn : x ≠ "__name__" := by decide) (hd : (x == ("__debug__" : Str)) = false := by decide) : PE X (.Name x pos) (tC v) :=
  fun _ _ _ H _ I h => ld_blt I hg hm hv ⟨v, H, I, r, h⟩ hn hd

/-! ### arithmetic -/
variable {a b : Expr} {ta tb : TE} {pos : Pos}
/-! ### comparisons -/
noncomputable def tB (t : TE) : TT := fun σ H Q => t σ H fun x H1 => ∃ c, x = .bl c ∧ Q c H1
theorem pt_val {e : Expr} {t : TE} (h : PE X e t) (he : ∀ whole, isTrue e X.env whole = (do let v ← whole; standAt e.pos; holding [v] (truthy v)) := by intro _; rfl) : PT X e (tB t) := by
  intro pins s σ H Q I hw
  refine isTrue_plain (thn (h pins s σ H _ I hw) fun v s1 ⟨x, H1, I1, r1, q1⟩ => ?_) (he _)
  obtain ⟨d, rfl, q⟩ := q1
  cases r1
  exact wpAny_truthy_bool ⟨H1, I1, q⟩

/-! ### and, or, not -/
variable {tA tB' : TT} {rest : List Expr}
noncomputable def tAnd (t u : TT) : TT := fun σ H Q => t σ H fun c H1 => if c = true then u σ H1 Q else Q false H1
noncomputable def tOr (t u : TT) : TT := fun σ H Q => t σ H fun c H1 => if c = true then Q true H1 else u σ H1 Q
noncomputable def tNot (t : TT) : TT := fun σ H Q => t σ H fun c H1 => Q (!c) H1
theorem pw_and1 (ha : PT X a tA) : PW X (.BoolOp .And [a] pos) tA := by
  intro wh pins s σ H Q I h
  refine isTrue_and (thn (ha pins s σ H Q I h) fun c s1 e => ?_)
  cases c with
  | true => exact isTrue_and_nil e
  | false => exact e
theorem pw_or1 (ha : PT X a tA) : PW X (.BoolOp .Or [a] pos) tA := by
  intro wh pins s σ H Q I h
  refine isTrue_or (thn (ha pins s σ H Q I h) fun c s1 e => ?_)
  cases c with
  | false => exact isTrue_or_nil e
  | true => exact e
theorem pw_and (ha : PT X a tA) (hb : PW X (.BoolOp .And (b :: rest) pos) tB') : PW X (.BoolOp .And (a :: b :: rest) pos) (tAnd tA tB') := by
  intro wh pins s σ H Q I h
  refine isTrue_and (thn (ha pins s σ H _ I h) fun c s1 ⟨H1, I1, q1⟩ => ?_)
  cases c with
  | true => exact hb wh pins s1 σ H1 Q I1 q1
  | false => exact ⟨H1, I1, q1⟩
theorem pw_or (ha : PT X a tA) (hb : PW X (.BoolOp .Or (b :: rest) pos) tB') : PW X (.BoolOp .Or (a :: b :: rest) pos) (tOr tA tB') := by
  intro wh pins s σ H Q I h
  refine isTrue_or (thn (ha pins s σ H _ I h) fun c s1 ⟨H1, I1, q1⟩ => ?_)
  cases c with
  | true => exact ⟨H1, I1, q1⟩
  | false => exact hb wh pins s1 σ H1 Q I1 q1
theorem pt_not (ha : PT X a tA) : PT X (.UnaryOp .Not a pos) (tNot tA) := by
  intro pins s σ H Q I h
  exact isTrue_not (ha pins s σ H (fun c H1 => Q (!c) H1) I h)
noncomputable def tAndV (ta tb : TE) : TE := fun σ H Q => ta σ H fun x H1 => ∃ c, x = .bl c ∧ if c = true then tb σ H1 Q else Q (.bl false) H1
noncomputable def tOrV (ta tb : TE) : TE := fun σ H Q => ta σ H fun x H1 => ∃ c, x = .bl c ∧ if c = true then Q (.bl true) H1 else tb σ H1 Q
noncomputable def tNotV (ta : TE) : TE := fun σ H Q => ta σ H fun x H1 => ∃ c, x = .bl c ∧ Q (.bl (!c)) H1
theorem pe_one {op} {t : TE} (h : PE X a t) : PE X (.BoolOp op [a] pos) t := fun pins s σ H Q I hw => BoolOp_one (h pins s σ H Q I hw)
theorem pe_and (ha : PE X a ta) (hb : PE X (.BoolOp .And (b :: rest) pos) tb) : PE X (.BoolOp .And (a :: b :: rest) pos) (tAndV ta tb) := by
  intro pins s σ H Q I h
  refine BoolOp_and (thn (ha pins s σ H _ I h) fun v s1 ⟨x, H1, I1, r1, q1⟩ => ?_)
  obtain ⟨c, rfl, q1⟩ := q1
  cases r1
  refine wpAny_truthy_bool ?_
  cases c with
  | true => exact hb pins s1 σ H1 Q I1 q1
  | false => exact ⟨.bl false, H1, I1, rfl, q1⟩
theorem pe_or (ha : PE X a ta) (hb : PE X (.BoolOp .Or (b :: rest) pos) tb) : PE X (.BoolOp .Or (a :: b :: rest) pos) (tOrV ta tb) := by
  intro pins s σ H Q I h
  refine BoolOp_or (thn (ha pins s σ H _ I h) fun v s1 ⟨x, H1, I1, r1, q1⟩ => ?_)
  obtain ⟨c, rfl, q1⟩ := q1
  cases r1
  refine wpAny_truthy_bool ?_
  cases c with
  | false => exact hb pins s1 σ H1 Q I1 q1
  | true => exact ⟨.bl true, H1, I1, rfl, q1⟩
theorem pe_not (ha : PE X a ta) : PE X (.UnaryOp .Not a pos) (tNotV ta) := by
  intro pins s σ H Q I h
  refine UnaryOp_ (thn (ha pins s σ H _ I h) fun v s1 ⟨x, H1, I1, r1, q1⟩ => ?_)
  obtain ⟨c, rfl, q1⟩ := q1
  cases r1
  exact not_of (wpAny_truthy_bool ⟨.bl (!c), H1, I1, rfl, q1⟩)
noncomputable def tIf (t : TT) (ta tb : TE) : TE := fun σ H Q => t σ H fun c H1 => if c = true then ta σ H1 Q else tb σ H1 Q
theorem pe_ifExp {c : Expr} (hc : PT X c tA) (ha : PE X a ta) (hb : PE X b tb) : PE X (.IfExp c a b pos) (tIf tA ta tb) := by
  intro pins s σ H Q I h
  refine wpAny_IfExp (thn (hc pins s σ H _ I h) fun d s1 ⟨H1, I1, q1⟩ => ?_)
  cases d with
  | true => exact ha pins s1 σ H1 Q I1 q1
  | false => exact hb pins s1 σ H1 Q I1 q1
end
end L2

namespace L2
open PySem PySem.Spec PyProof.Rows

/-! ### a list, a tuple that is read: tracked, frozen, or an object of the module -/
noncomputable def SqL (K : PySem.W.Frag) (H : Hp) (a : Addr) (xs : List V) : Prop :=
  Rd H a (.lst xs) ∨
    ∃ (o : Obj) (its : Array Value) (n : Nat), K.lookup a = some o ∧ o.cls = .type "list" ∧ o.dict = none ∧ o.data = .seq its n ∧ its.size ≤ sizeLine ∧ Vals xs its.toList
noncomputable def SqT (K : PySem.W.Frag) (H : Hp) (a : Addr) (xs : List V) : Prop :=
  Rd H a (.tup xs) ∨
    ∃ (o : Obj) (its : Array Value) (n : Nat), K.lookup a = some o ∧ o.cls = .type "tuple" ∧ o.data = .seq its n ∧ its.size ≤ sizeLine ∧ Vals xs its.toList
noncomputable def absV : Value → Option V
  | .none => some .non
  | .bool b => some (.bl b)
  | .int i _ => some (.int i)
  | .str x _ => some (.str x)
  | .bytes b _ => some (.byt b)
  | .float b _ => some (.flt b)
  | .ref a => some (.ref a)
  | .type n => some (.ty n)
  | _ => none
theorem RelV.abs {x : V} {u : Value} (r : RelV x u) : absV u = some x := by
  cases x with
  | non => cases r; rfl
  | bl _ => cases r; rfl
  | int _ => obtain ⟨t, rfl⟩ := r; rfl
  | str _ => obtain ⟨t, rfl⟩ := r; rfl
  | byt _ => obtain ⟨t, rfl⟩ := r; rfl
  | flt _ => obtain ⟨t, rfl⟩ := r; rfl
  | ref _ => cases r; rfl
  | ty _ => cases r; rfl
theorem RelV.inj {x y : V} {u : Value} (r : RelV x u) (q : RelV y u) : x = y := Option.some.inj (r.abs.symm.trans q.abs)
theorem Vals.inj : ∀ {xs ys : List V} {us : List Value}, Vals xs us → Vals ys us → xs = ys
  | _, _, _, .nil, .nil => rfl
  | _, _, _, .cons r t, .cons r' t' => by rw [r.inj r', Vals.inj t t']
section
variable {X : Cx} {pins : List (Addr × Obj)} {σ : St} {H : Hp} {s : Shared} {a : Addr} {xs ys : List V}
theorem SqL.of {K : PySem.W.Frag} (h : H a = some (.lst xs)) : SqL K H a xs := .inl (.inl h)
theorem SqT.of {K : PySem.W.Frag} (h : H a = some (.tup xs)) : SqT K H a xs := .inl (.inl h)
theorem Inv.list (I : Inv X pins σ H s) (h : SqL X.K H a xs) : ∃ its : List Value, Vals xs its ∧ PlainL s.heap a its.toArray ∧ xs.length ≤ sizeLine := by
  rcases h with h | ⟨o, its, n, hk, hc, hd, hs, hz, r⟩
  · obtain ⟨z, its, n, r, e⟩ := h.ok I.hok
    exact ⟨its, r, ⟨_, n, e, rfl, rfl, rfl⟩, z⟩
  · refine ⟨its.toList, r, ⟨o, n, I.kIn a o hk, hc, hd, by simpa using hs⟩, ?_⟩
    have e := r.length
    simp only [Array.length_toList] at e
    omega
theorem Inv.tuple (I : Inv X pins σ H s) (h : SqT X.K H a xs) : ∃ its : List Value, Vals xs its ∧ IsTup s.heap a its.toArray ∧ xs.length ≤ sizeLine := by
  rcases h with h | ⟨o, its, n, hk, hc, hs, hz, r⟩
  · obtain ⟨z, its, r, p⟩ := h.ok I.hok
    exact ⟨its, r, p, z⟩
  · refine ⟨its.toList, r, ⟨o, I.kIn a o hk, hc, n, by simpa using hs⟩, ?_⟩
    have e := r.length
    simp only [Array.length_toList] at e
    omega
theorem Inv.list_inj (I : Inv X pins σ H s) (h : SqL X.K H a xs) (h' : SqL X.K H a ys) : xs = ys := by
  obtain ⟨its, r, ⟨o, n, e, _, _, d⟩, _⟩ := I.list h
  obtain ⟨its', r', ⟨o', n', e', _, _, d'⟩, _⟩ := I.list h'
  rw [e] at e'; cases e'
  rw [d] at d'
  injection d' with d1 _
  have : its = its' := by simpa using congrArg Array.toList d1
  subst this
  exact r.inj r'
theorem Inv.tuple_inj (I : Inv X pins σ H s) (h : SqT X.K H a xs) (h' : SqT X.K H a ys) : xs = ys := by
  obtain ⟨its, r, ⟨o, e, _, n, d⟩, _⟩ := I.tuple h
  obtain ⟨its', r', ⟨o', e', _, n', d'⟩, _⟩ := I.tuple h'
  rw [e] at e'; cases e'
  rw [d] at d'
  injection d' with d1 _
  have : its = its' := by simpa using congrArg Array.toList d1
  subst this
  exact r.inj r'
end

/-! ### another wish about exceptions -/
noncomputable abbrev Cx.wish (X : Cx) (E : Value → Shared → Prop) : Cx := { X with xe := E }
noncomputable abbrev Cx.nox (X : Cx) : Cx := X.wish fun _ _ => False
theorem Cx.Ok.wish {X : Cx} (ok : X.Ok) (E : Value → Shared → Prop) : (X.wish E).Ok :=
  ⟨ok.mod, ok.kind, ok.glob, ok.blt, ok.above, ok.inj, ok.has, ok.cab, ok.hd, ok.frames, ok.stk, ok.exf, ok.bs, ok.bsz, ok.noex, ok.exfs, ok.funs, ok.frf⟩
theorem Cx.Ok.unwish {X : Cx} {E : Value → Shared → Prop} (ok : (X.wish E).Ok) : X.Ok :=
  ⟨ok.mod, ok.kind, ok.glob, ok.blt, ok.above, ok.inj, ok.has, ok.cab, ok.hd, ok.frames, ok.stk, ok.exf, ok.bs, ok.bsz, ok.noex, ok.exfs, ok.funs, ok.frf⟩
section
variable {X : Cx} {pins : List (Addr × Obj)} {σ : St} {H : Hp} {s : Shared} {E : Value → Shared → Prop}
theorem Inv.wish (I : Inv X pins σ H s) (E : Value → Shared → Prop) : Inv (X.wish E) pins σ H s := ⟨I.ok.wish E, I.os, I.bare, I.base, I.loc, I.cell, I.free, I.freeC, I.pin, I.hok, I.len⟩
theorem Inv.unwish (I : Inv (X.wish E) pins σ H s) : Inv X pins σ H s := ⟨I.ok.unwish, I.os, I.bare, I.base, I.loc, I.cell, I.free, I.freeC, I.pin, I.hok, I.len⟩
theorem SP.unwish {D : Ends} {f : Flow} {s' : Shared} (h : SP (X.wish E) pins D f s') : SP X pins D f s' := by
  cases f with
  | next => obtain ⟨σ', H', I, q⟩ := h; exact ⟨σ', H', I.unwish, q⟩
  | brk => obtain ⟨σ', H', I, q⟩ := h; exact ⟨σ', H', I.unwish, q⟩
  | cont => obtain ⟨σ', H', I, q⟩ := h; exact ⟨σ', H', I.unwish, q⟩
  | ret u => obtain ⟨v, σ', H', I, r, q⟩ := h; exact ⟨v, σ', H', I.unwish, r, q⟩
theorem PSs.nox {st : List Stmt} {t : TS} (h : PSs X.nox st t) : PSs X st t := fun pins s σ H D I hw =>
  wpAny_mono (h pins s σ H D (I.wish _) hw) (fun _ _ q => q.unwish) fun _ _ z => False.elim z
end

/-! ### blocks and small statements -/
section
variable {X : Cx} {st : Stmt} {rest : List Stmt} {t u : TS} {e : Expr} {te : TE} {pos : Pos}
noncomputable def tNext : TS := fun D σ H => D.nx σ H
noncomputable def tSeq (t u : TS) : TS := fun D σ H => t { D with nx := u D } σ H
theorem pss_nil : PSs X [] tNext := fun _ _ σ H _ I h => wpAny_execs_nil ⟨σ, H, I, h⟩
theorem pss_cons (h1 : PS X st t) (h2 : PSs X rest u) : PSs X (st :: rest) (tSeq t u) := by
  intro pins s σ H D I h
  refine wpAny_execs_cons (thn (h1 pins s σ H { D with nx := u D } I h) fun f s1 q => ?_)
  cases f with
  | next =>
    obtain ⟨σ', H', I', q⟩ := q
    exact h2 pins s1 σ' H' D I' q
  | ret v => exact q
  | brk => exact q
  | cont => exact q
theorem pss_one (h1 : PS X st t) : PSs X [st] t := by
  intro pins s σ H D I h
  refine wpAny_execs_cons (thn (h1 pins s σ H D I h) fun f s1 q => ?_)
  cases f with
  | next => exact wpAny_execs_nil q
  | ret v => exact q
  | brk => exact q
  | cont => exact q
theorem Inv.quiet {pins : List (Addr × Obj)} {σ : St} {H : Hp} {s : Shared} (I : Inv X pins σ H s) : interactive X.env = false := by simp [interactive, I.ok.kind]
noncomputable def tDrop (te : TE) : TS := fun D σ H => te σ H fun _ H1 => D.nx σ H1
theorem ps_expr (he : PE X e te) (hs : swapsWith e none pos.line X.env = pure false := by rfl) : PS X (.Expr e pos) (tDrop te) := by
  intro pins s σ H D I h
  exact wpAny_Expr_any (thn (he pins s σ H _ I h) fun v s1 ⟨x, H1, I1, r1, q1⟩ => ⟨σ, H1, I1, q1⟩) I.quiet hs
noncomputable def tRet (te : TE) : TS := fun D σ H => te σ H D.rt
theorem ps_ret (he : PE X e te) : PS X (.Return (some e) pos) (tRet te) := by
  intro pins s σ H D I h
  exact wpAny_Return_some (thn (he pins s σ H _ I h) fun v s1 ⟨x, H1, I1, r1, q1⟩ => ⟨x, σ, H1, I1, r1, q1⟩)
noncomputable def tIfS (c : TT) (t u : TS) : TS := fun D σ H => c σ H fun b H1 => if b = true then t D σ H1 else u D σ H1
theorem ps_if {c : Expr} {a b : List Stmt} {tc : TT} (hc : PT X c tc) (ha : PSs X a t) (hb : PSs X b u) : PS X (.If c a b pos) (tIfS tc t u) := by
  intro pins s σ H D I h
  refine wpAny_If (thn (hc pins s σ H _ I h) fun d s1 ⟨H1, I1, q1⟩ => ?_)
  cases d with
  | true => exact ha pins s1 σ H1 D I1 q1
  | false => exact hb pins s1 σ H1 D I1 q1
end

/-! ### targets -/
noncomputable abbrev TG := V → St → Hp → (St → Hp → Prop) → Prop
noncomputable abbrev TGs := List V → St → Hp → (St → Hp → Prop) → Prop
noncomputable def PG (X : Cx) (target : Expr) (t : TG) : Prop :=
  ∀ (pins : List (Addr × Obj)) (s : Shared) (σ : St) (H : Hp) (v : V) (u : Value) (Q : St → Hp → Prop), Inv X pins σ H s → RelV v u → t v σ H Q →
    wpAny (model X.prog X.w) X.A (assign target X.env u) (fun _ s' => ∃ σ' H', Inv X pins σ' H' s' ∧ Q σ' H') X.xe s
noncomputable def PGs (X : Cx) (ts : List Expr) (t : TGs) : Prop :=
  ∀ (pins : List (Addr × Obj)) (s : Shared) (σ : St) (H : Hp) (vs : List V) (us : List Value) (Q : St → Hp → Prop), Inv X pins σ H s → Vals vs us → t vs σ H Q →
    wpAny (model X.prog X.w) X.A (assignInOrder ((assignEach ts X.env).map (·.2)) us) (fun _ s' => ∃ σ' H', Inv X pins σ' H' s' ∧ Q σ' H') X.xe s
noncomputable abbrev TSet := V → V → V → Hp → (Hp → Prop) → Prop
noncomputable def PSet (X : Cx) (t : TSet) : Prop :=
  ∀ (pins : List (Addr × Obj)) (s : Shared) (σ : St) (H : Hp) (o i v : V) (ov iv u : Value) (Q : Hp → Prop), Inv X pins σ H s → RelV o ov → RelV i iv → RelV v u → t o i v H Q →
    wpAny (model X.prog X.w) X.A (setItem ov iv u) (fun _ s' => ∃ H', Inv X pins σ H' s' ∧ Q H') X.xe s
section
variable {X : Cx} {pos : Pos}
noncomputable def gName (i : Nat) : TG := fun v σ H Q => Q (σ.set i (some v)) H
theorem pg_name {i : Nat} {x : Str} (hN : X.N.Nodup) (hi : X.N[i]? = some x) (hx : Loc X.env.scope x) (hf : X.fn x = true ∨ X.env.scope.names.lookup x = some .local := by first | exact .inl rfl | exact .inr rfl | assumption) : PG X (.Name x pos) (gName i) := by
  intro pins s σ H v u Q I r h
  exact wpAny_assign_Name (store_ok I hN hi hx r (fun s' I' => ⟨_, H, I', h⟩) hf)
noncomputable def gNil : TGs := fun vs σ H Q => vs = [] ∧ Q σ H
noncomputable def gCons (t : TG) (u : TGs) : TGs := fun vs σ H Q => ∃ v r, vs = v :: r ∧ t v σ H fun σ' H' => u r σ' H' Q
theorem pgs_nil : PGs X [] gNil := by
  intro pins s σ H vs us Q I r h
  obtain ⟨e, h⟩ := h
  subst e
  cases r
  exact assignInOrder_nil ⟨σ, H, I, h⟩
theorem pgs_cons {e : Expr} {es : List Expr} {t : TG} {u : TGs} (h1 : PG X e t) (h2 : PGs X es u)
    (hs : (assignEach (e :: es) X.env).map (·.2) = assign e X.env :: (assignEach es X.env).map (·.2) := by rfl) : PGs X (e :: es) (gCons t u) := by
  intro pins s σ H vs us Q I r h
  obtain ⟨v, vr, e1, h⟩ := h
  subst e1
  cases r with
  | cons r rr =>
    rw [hs]
    refine assignInOrder_cons (thn (h1 pins s σ H _ _ _ I r h) fun _ s1 ⟨σ1, H1, I1, q1⟩ => ?_)
    exact h2 pins s1 σ1 H1 _ _ Q I1 rr q1
noncomputable def gTup (K : PySem.W.Frag) (n : Nat) (t : TGs) : TG := fun v σ H Q => ∃ a xs, v = .ref a ∧ SqT K H a xs ∧ xs.length = n ∧ t xs σ H Q
theorem pg_tup {es : List Expr} {k : Nat} {t : TGs} {n : Nat} (hc : X.calm = true) (h : PGs X es t)
    (hn : (assignEach es X.env).length = n := by rfl) (hst : (assignEach es X.env).findIdx? (·.1) = none := by rfl) : PG X (.Tuple es k pos) (gTup X.K n t) := by
  intro pins s σ H v u Q I r hw
  obtain ⟨a, xs, e1, hq, hl, hw⟩ := hw
  subst e1
  cases r
  obtain ⟨its, rv, ht, hz⟩ := I.tuple hq
  refine assign_Tuple_tuple (I.ok.hd hc) ht (by simp [hn, ← hl, rv.length]) hst fun h' hx => ?_
  have I1 : Inv X pins σ H { s with heap := h' } := I.kept (t' := s.toks) fun b o e => hx b o (Nat.ne_of_lt (Heap.lt_size e)) e
  exact h pins _ σ H xs _ Q I1 (by simpa using rv) hw
noncomputable def gSub (to ti : TE) (t : TSet) : TG := fun v σ H Q => to σ H fun o H1 => ti σ H1 fun i H2 => t o i v H2 fun H3 => Q σ H3
theorem pg_sub {o i : Expr} {to ti : TE} {t : TSet} (ho : PE X o to) (hi : PE X i ti) (hs : PSet X t)
    (ha : ∀ v, assign (.Subscript o i pos) X.env v = (do
      let ov ← holding [v] (eval o X.env)
      let iv ← holding [v, ov] (eval i X.env)
      standAt pos
      holding [v, ov, iv] (setItem ov iv v)
      release [v, ov, iv] []) := by intro _; rfl) : PG X (.Subscript o i pos) (gSub to ti t) := by
  intro pins s σ H v u Q I r h
  rw [ha]
  refine wpAny_bind (wpAny_holding (thn (ho pins s σ H _ I h) fun ov s1 ⟨x, H1, I1, r1, q1⟩ => ?_))
  refine wpAny_bind (wpAny_holding (thn (hi pins s1 σ H1 _ I1 q1) fun iv s2 ⟨y, H2, I2, r2, q2⟩ => ?_))
  refine wpAny_bind (wpAny_standAt (wpAny_bind (wpAny_holding (thn (hs pins s2 σ H2 x y v ov iv u _ I2 r1 r2 r q2) fun _ s3 ⟨H3, I3, q3⟩ => ?_))))
  exact wpAny_release ⟨σ, H3, I3, q3⟩
noncomputable def tAsg (te : TE) (g : TG) : TS := fun D σ H => te σ H fun x H1 => g x σ H1 D.nx
theorem ps_asg {tg e : Expr} {te : TE} {g : TG} (he : PE X e te) (hg : PG X tg g) (hs : swapsWithSole [tg] e pos.line X.env = pure false := by rfl) (hw : swappedStores [tg] e X.env = pure none := by rfl)
    (h1 : (assignEach [tg] X.env).map (·.2) = [assign tg X.env] := by rfl) : PS X (.Assign [tg] e pos) (tAsg te g) := by
  intro pins s σ H D I h
  refine wpAny_Assign_stores (thn (he pins s σ H _ I h) fun v s1 ⟨x, H1, I1, r1, q1⟩ => ?_) hs hw
  rw [h1]
  exact thn (hg pins s1 σ H1 x v _ I1 r1 q1) fun _ s2 q => q
theorem ps_set {i : Nat} {x : Str} {e : Expr} {te : TE} {pos' : Pos} (hN : X.N.Nodup) (hi : X.N[i]? = some x) (hx : Loc X.env.scope x) (he : PE X e te) (hs : swapsWith e (some (.Name x pos')) pos.line X.env = pure false := by rfl) (hf : X.fn x = true ∨ X.env.scope.names.lookup x = some .local := by first | exact .inl rfl | exact .inr rfl | assumption) :
    PS X (.Assign [.Name x pos'] e pos) (tAsg te (gName i)) := by
  intro pins s σ H D I h
  refine wpAny_Assign_Name (thn (he pins s σ H _ I h) fun v s1 ⟨y, H1, I1, r1, q1⟩ => ?_) hs
  exact store_ok I1 hN hi hx r1 (fun s2 I2 => ⟨_, H1, I2, q1⟩) hf
end

/-! ### while -/
section
variable {X : Cx} {pos : Pos}
end

/-! ### what a loop or a comprehension walks -/
structure It where
  go : Nat → Hp → Prop
  yld : Nat → Hp → V → Hp → Prop
  stop : Nat → Hp → Prop
noncomputable def FpOk (X : Cx) (pins : List (Addr × Obj)) (H : Hp) (b : Addr) : Prop :=
  H b = none ∧ b ≠ X.env.locals ∧ b ∉ X.fs ∧ (b ∈ X.ex ∨ X.s₀.heap.objs.size ≤ b) ∧ (∀ x c, X.env.cells.lookup x = some c → c ≠ b) ∧ ∀ p ∈ X.pn ++ pins, p.1 ≠ b
theorem Inv.fpOk {X : Cx} {pins : List (Addr × Obj)} {σ : St} {H H' : Hp} {s : Shared} {b : Addr} (I : Inv X pins σ H s) (hb : s.heap.objs.size ≤ b) (hn : H' b = none) : FpOk X pins H' b := by
  refine ⟨hn, Nat.ne_of_gt (Nat.lt_of_lt_of_le I.lt hb), I.nofs hb, .inr (Nat.le_trans I.sz hb), fun x c e z => ?_, fun p hp z => ?_⟩
  · obtain ⟨v, q⟩ := I.cell x c e
    exact absurd (Nat.lt_of_lt_of_le q.lt (by rw [z]; exact hb)) (Nat.lt_irrefl _)
  · exact absurd (Nat.lt_of_lt_of_le (Heap.lt_size (I.pin p hp).1) (by rw [z]; exact hb)) (Nat.lt_irrefl _)
structure Turn (P : Program) (w : World) (K : PySem.W.Frag) (tg : Expr) (J : It) (fp : List Addr) (it : Addr) (tn : Nat → Heap → Prop) : Prop where
  mem : it ∈ fp
  obj : ∀ i h, tn i h → ∀ b ∈ fp, ∃ o, h.get? b = some o ∧ ∀ v, o.data ≠ .cell v
  keep : ∀ i h h', tn i h → (∀ b ∈ fp, ∀ o, h.get? b = some o → h'.get? b = some o) → tn i h'
  item : ∀ (X : Cx), X.prog = P → X.w = w → X.K = K → X.calm = true → ∀ (i : Nat) (pins : List (Addr × Obj)) (s : Shared) (σ : St) (H : Hp) (E : Value → Shared → Prop), Inv X pins σ H s → (∀ b ∈ fp, FpOk X pins H b) → tn i s.heap → J.go i H →
    wpAny (model P w) X.A (pyNext (.ref it)) (fun r s1 => ∃ u, r = some u ∧
      wpAny (model P w) X.A (letOwnedTupleGo tg (.ref it) u) (fun _ s2 => ∃ x H', Inv X pins σ H' s2 ∧ RelV x u ∧ J.yld i H x H' ∧ tn (i + 1) s2.heap ∧ ∀ b ∈ fp, H' b = none) E s1) E s
  done : ∀ (X : Cx), X.prog = P → X.w = w → X.K = K → X.calm = true → ∀ (i : Nat) (pins : List (Addr × Obj)) (s : Shared) (σ : St) (H : Hp) (E : Value → Shared → Prop), Inv X pins σ H s → (∀ b ∈ fp, FpOk X pins H b) → tn i s.heap → J.stop i H →
    wpAny (model P w) X.A (pyNext (.ref it)) (fun r s1 => r = none ∧ Inv X pins σ H s1) E s
  self : ∀ (A : Around) (i : Nat) (s : Shared) (Q : Value → Shared → Prop) (E : Value → Shared → Prop), tn i s.heap → Q (.ref it) s → wpAny (model P w) A (pyIter (.ref it)) Q E s
noncomputable abbrev TI := St → Hp → (It → Hp → Prop) → Prop
noncomputable def PIE (X : Cx) (pins : List (Addr × Obj)) (σ : St) (tg : Expr) (R : It → Hp → Prop) (itv : Value) (s2 : Shared) : Prop :=
  ∃ (it : Addr) (fp : List Addr) (tn : Nat → Heap → Prop) (J : It) (H' : Hp), itv = .ref it ∧ Inv X pins σ H' s2 ∧ Turn X.prog X.w X.K tg J fp it tn ∧ tn 0 s2.heap ∧ (∀ b ∈ fp, FpOk X pins H' b) ∧ R J H'
noncomputable def PI (X : Cx) (tg iter : Expr) (wi : TI) : Prop :=
  ∀ (pins : List (Addr × Obj)) (s : Shared) (σ : St) (H : Hp) (R : It → Hp → Prop), Inv X pins σ H s → wi σ H R →
    wpAny (model X.prog X.w) X.A (eval iter X.env) (fun v s1 => wpAny (model X.prog X.w) X.A (pyIter v) (PIE X pins σ tg R) X.xe s1) X.xe s

theorem go_of {M : Model} {A : Around} {E : Value → Shared → Prop} {s : Shared} {tg : Expr} {it : Addr} {u : Value} {o : Obj} {n : String} {vs : Array Value} {Q : Unit → Shared → Prop} (ho : s.heap.get? it = some o) (hc : o.cls = .type n) (hd : o.data = .fields vs)
    (hn : ["enumerate", "zip", "dict_itemiterator", "dict_reverseitemiterator", "odict_iterator", "itertools.zip_longest", "itertools.pairwise"].contains n = false) (hQ : Q () s) : wpAny M A (letOwnedTupleGo tg (.ref it) u) Q E s := by
  unfold letOwnedTupleGo
  cases tg <;> first
    | exact wpAny_pure hQ
    | (cases u <;> first
        | exact wpAny_pure hQ
        | (refine wpAny_bind (wpAny_load ho ?_)
           rw [hc, hd]
           show wpAny M A (if (["enumerate", "zip", "dict_itemiterator", "dict_reverseitemiterator", "odict_iterator", "itertools.zip_longest", "itertools.pairwise"].contains n && vs[0]? == some (rawInt _)) = true then _ else _) Q E s
           rw [if_neg (by intro h; rw [hn, Bool.false_and] at h; cases h)]
           exact wpAny_pure hQ))

noncomputable def Itl (K : PySem.W.Frag) (a : Addr) : It :=
  ⟨fun i H => ∃ xs x, SqL K H a xs ∧ xs[i]? = some x, fun i H x H' => H' = H ∧ ∀ xs, SqL K H a xs → xs[i]? = some x, fun i H => ∃ xs, SqL K H a xs ∧ xs.length ≤ i⟩
noncomputable def Itr (lo : Int) (n : Nat) : It := ⟨fun i _ => i < n, fun i H x H' => H' = H ∧ x = .int (lo + i), fun i _ => n ≤ i⟩
theorem turn_list {P : Program} {w : World} {K : PySem.W.Frag} {tg : Expr} (a it : Addr) : Turn P w K tg (Itl K a) [it] it (fun i h => h.IsListIter it a i) where
  mem := by simp
  obj := fun i h st b hb => by
    have e : b = it := by simpa using hb
    subst e
    obtain ⟨o, e, c, d⟩ := st
    exact ⟨o, e, fun v z => by rw [d] at z; cases z⟩
  keep := fun i h h' st k => st.at fun o e => k it (by simp) o e
  item := by
    intro X hP hw hK hc i pins s σ H E I hf st hg
    subst hP hw hK
    obtain ⟨xs, x, hq, hx⟩ := hg
    obtain ⟨its, rv, p, hz⟩ := I.list hq
    obtain ⟨u, hu, ru⟩ := rv.get hx
    obtain ⟨f0, f1, f2, f3, f4, f5⟩ := hf it (by simp)
    refine wpAny_pyNext_list_item st p.isList (x := u) (by simpa using hu) fun h' st' sb => ?_
    have I1 : Inv X pins σ H { s with heap := h' } := I.turned (t' := s.toks) (fun b o hb e => (sb.2 b hb).trans e) f0 f1 f3 f4 f5
    obtain ⟨o, e, c, d⟩ := id st'
    exact ⟨u, rfl, go_of (s := { s with heap := h' }) e c d (by decide) ⟨x, H, I1, ru, ⟨rfl, fun ys hy => by rw [I.list_inj hy hq]; exact hx⟩, st', fun b hb => (hf b hb).1⟩⟩
  done := by
    intro X hP hw hK hc i pins s σ H E I hf st hg
    subst hP hw hK
    obtain ⟨xs, hq, hx⟩ := hg
    obtain ⟨its, rv, p, hz⟩ := I.list hq
    obtain ⟨f0, f1, f2, f3, f4, f5⟩ := hf it (by simp)
    have hl := rv.length
    exact wpAny_pyNext_list_end (I.ok.hd hc) st p.isList (by simp; omega) fun h' eb => ⟨rfl, I.turned (t' := s.toks) (fun b o hb e => eb b o hb e) f0 f1 f3 f4 f5⟩
  self := fun _ _ _ _ _ st h => wpAny_pyIter_listiter st h
theorem turn_range {P : Program} {w : World} {K : PySem.W.Frag} {tg : Expr} (it : Addr) (lo : Int) (n : Nat) : Turn P w K tg (Itr lo n) [it] it (fun i h => IsRangeIter h it (lo + (i : Nat) * 1) ((n : Int) - (i : Nat)) 1) where
  mem := by simp
  obj := fun i h st b hb => by
    have e : b = it := by simpa using hb
    subst e
    exact ⟨_, st, fun v z => by
      have z' : Data.fields _ = Data.cell v := z
      cases z'⟩
  keep := fun i h h' st k => k it (by simp) _ st
  item := by
    intro X hP hw hK hc i pins s σ H E I hf st hg
    subst hP hw hK
    obtain ⟨f0, f1, f2, f3, f4, f5⟩ := hf it (by simp)
    have W := Walks.range (prog := X.prog) (w := X.w) (I.ok.hd hc) it lo 1 n
    refine W.item i s _ _ hg st fun v h' tk hv st' kk => ?_
    obtain ⟨t, rfl⟩ := hv
    have I1 : Inv X pins σ H { s with heap := h', toks := tk } := I.turned (fun b o hb e => kk b o (by simpa using hb) e) f0 f1 f3 f4 f5
    refine ⟨_, rfl, go_of (s := { s with heap := h', toks := tk }) (n := "range_iterator") st' rfl rfl (by decide) ⟨.int (lo + i), H, I1, ⟨t, ?_⟩, ⟨rfl, rfl⟩, st', fun b hb => (hf b hb).1⟩⟩
    rw [Int.mul_one]
  done := by
    intro X hP hw hK hc i pins s σ H E I hf st hg
    subst hP hw hK
    obtain ⟨f0, f1, f2, f3, f4, f5⟩ := hf it (by simp)
    exact wpAny_pyNext_range_end (I.ok.hd hc) st (by have : n ≤ i := hg; omega) fun h' eb => ⟨rfl, I.turned (t' := s.toks) (fun b o hb e => eb b o hb e) f0 f1 f3 f4 f5⟩
  self := fun _ _ _ _ _ st h => wpAny_pyIter_rangeiter st h
end L2

namespace L2
open PySem PySem.Spec PyProof.Rows
section
variable {X : Cx} {tg : Expr}
noncomputable def iList (K : PySem.W.Frag) (tl : TE) : TI := fun σ H R => tl σ H fun x H1 => ∃ a, x = .ref a ∧ (∃ xs, SqL K H1 a xs) ∧ R (Itl K a) H1
theorem pi_list {l : Expr} {tl : TE} (hl : PE X l tl) : PI X tg l (iList X.K tl) := by
  intro pins s σ H R I h
  refine thn (hl pins s σ H _ I h) fun v s1 ⟨x, H1, I1, r1, q1⟩ => ?_
  obtain ⟨a, e, ⟨xs, hq⟩, q⟩ := q1
  subst e
  cases r1
  obtain ⟨its, rv, p, hz⟩ := I1.list hq
  refine wpAny_pyIter_list p.isList ?_
  refine ⟨s1.heap.objs.size, [s1.heap.objs.size], _, _, H1, rfl, I1.kept (t' := s1.toks) fun b o e => Heap.get?_push_of_some _ e, turn_list a _, ⟨_, Heap.get?_push_size _ rfl, rfl, rfl⟩, fun b hb => ?_, q⟩
  have e : b = s1.heap.objs.size := by simpa using hb
  subst e
  exact I1.fpOk (Nat.le_refl _) (I1.hok.fresh (Nat.le_refl _))
theorem range_it {pins : List (Addr × Obj)} {σ : St} {H : Hp} {s : Shared} {R : It → Hp → Prop} {E : Value → Shared → Prop} {lo hi : Int} {t u v : Tok} {tk : Nat} (I : Inv X pins σ H s) (h1 : -(2 ^ 62) ≤ lo) (h2 : lo < 2 ^ 62) (h3 : -(2 ^ 62) ≤ hi) (h4 : hi < 2 ^ 62)
    (q : R (Itr lo (hi - lo).toNat) H) : wpAny (model X.prog X.w) X.A (pyIter (.ref s.heap.objs.size)) (PIE X pins σ tg R) E { s with heap := s.heap.push { cls := .type "range", data := .fields #[.int lo t, .int hi u, .int 1 v] }, toks := tk } := by
  refine wpAny_pyIter_range (IsRange.new ..) (small_one h1 h2 h3 h4) ?_
  have I1 : Inv X pins σ H { s with heap := s.heap.push { cls := .type "range", data := .fields #[.int lo t, .int hi u, .int 1 v] }, toks := tk } := I.kept fun b o e => Heap.get?_push_of_some _ e
  refine ⟨(s.heap.push { cls := .type "range", data := .fields #[.int lo t, .int hi u, .int 1 v] }).objs.size, [(s.heap.push { cls := .type "range", data := .fields #[.int lo t, .int hi u, .int 1 v] }).objs.size], _, _, H, rfl,
    I1.kept (t' := tk) fun b o e => Heap.get?_push_of_some _ e, turn_range _ lo (hi - lo).toNat, ?_, fun b hb => ?_, q⟩
  · have e1 : lo + ((0 : Nat) : Int) * 1 = lo := by simp
    have e2 : (((hi - lo).toNat : Nat) : Int) - ((0 : Nat) : Int) = Builtin.Range.rangeSize lo hi 1 := by rw [rangeSize_one]; split <;> omega
    show IsRangeIter _ _ (lo + ((0 : Nat) : Int) * 1) ((((hi - lo).toNat : Nat) : Int) - ((0 : Nat) : Int)) 1
    rw [e1, e2]
    exact Heap.get?_push_size _ rfl
  · have e : b = (s.heap.push { cls := .type "range", data := .fields #[.int lo t, .int hi u, .int 1 v] }).objs.size := by simpa using hb
    subst e
    exact I1.fpOk (Nat.le_refl _) (I1.hok.fresh (Nat.le_refl _))
noncomputable def iRng1 (ta : TA) : TI := fun σ H R => ta σ H fun vs H1 => ∃ j : Int, vs = [.int j] ∧ -(2 ^ 62) ≤ j ∧ j < 2 ^ 62 ∧ R (Itr 0 j.toNat) H1
theorem pi_range1 {a : Expr} {ta : TA} {p pos : Pos} (hg : Gl X "range") (hm : X.mg "range" = none) (ha : PA X [a] ta) (hs : starEach [a] X.env = [(false, eval a X.env)] := by rfl) : PI X tg (.Call (.Name "range" p) [a] [] pos) (iRng1 ta) := by
  intro pins s σ H R I h
  refine Call_ (ld_blt I hg hm boot_range (PyProof.Rows.callWith_type1 (thn (ha pos pins s σ H _ I h) fun us s1 ⟨vs, H1, I1, r1, q1⟩ => ?_) hs rfl))
  obtain ⟨j, e, q1, q2, q⟩ := q1
  subst e
  cases r1 with
  | cons r rr =>
    cases rr
    obtain ⟨t, rfl⟩ := r
    exact call_range_1 (range_it I1 (by omega) (by omega) q1 q2 (by simpa using q))
/-! ### for -/
noncomputable def tFor (wi : TI) (g : TG) (tb : TS) : TS := fun D σ H => wi σ H fun J H1 => ∃ W : Nat → Nat → St → Hp → Prop, (∃ m, W 0 m σ H1) ∧ ∀ i m σ H, W i m σ H →
  (J.stop i H ∧ D.nx σ H) ∨ (J.go i H ∧ ∃ N : St → Hp → Prop, (∀ σ' H', N σ' H' → ∃ m', m' < m ∧ W (i + 1) m' σ' H') ∧ ∀ x H', J.yld i H x H' → g x σ H' fun σ2 H2 => tb { D with nx := N, ct := N, bk := D.nx } σ2 H2)
noncomputable def pinsAt (fp : List Addr) (h : Heap) : List (Addr × Obj) := fp.filterMap fun b => (h.get? b).map fun o => (b, o)
theorem mem_pinsAt {fp : List Addr} {h : Heap} {b : Addr} {o : Obj} (hb : b ∈ fp) (e : h.get? b = some o) : (b, o) ∈ pinsAt fp h := List.mem_filterMap.mpr ⟨b, hb, by rw [e]; rfl⟩
theorem of_pinsAt {fp : List Addr} {h : Heap} {p : Addr × Obj} (hp : p ∈ pinsAt fp h) : p.1 ∈ fp ∧ h.get? p.1 = some p.2 := by
  obtain ⟨b, hb, e⟩ := List.mem_filterMap.mp hp
  cases q : h.get? b with
  | none => rw [q] at e; cases e
  | some o =>
    rw [q] at e
    have e' : (b, o) = p := Option.some.inj e
    subst e'
    exact ⟨hb, q⟩
theorem Inv.pinned {pins : List (Addr × Obj)} {σ : St} {H : Hp} {s : Shared} {fp : List Addr} (I : Inv X pins σ H s) (hf : ∀ b ∈ fp, FpOk X pins H b) (ho : ∀ b ∈ fp, ∃ o, s.heap.get? b = some o ∧ ∀ v, o.data ≠ .cell v) : Inv X (pins ++ pinsAt fp s.heap) σ H s :=
  I.pins_of fun p hp => (List.mem_append.mp hp).elim (fun z => I.pin p (List.mem_append_right _ z)) fun z => by
    obtain ⟨hb, e⟩ := of_pinsAt z
    obtain ⟨f0, f1, f2, _⟩ := hf p.1 hb
    obtain ⟨o, e', d⟩ := ho p.1 hb
    rw [e] at e'; cases e'
    exact ⟨e, f0, f1, f2, d⟩
theorem Inv.unpinned {pins pl : List (Addr × Obj)} {σ : St} {H : Hp} {s : Shared} (I : Inv X (pins ++ pl) σ H s) : Inv X pins σ H s := I.pins_of fun p hp => I.pin p (List.mem_append_right _ (List.mem_append_left _ hp))
theorem ps_for {iter : Expr} {body : List Stmt} {wi : TI} {g : TG} {tb : TS} {pos : Pos} (hp : PassesOwn (model X.prog X.w) X.A X.env X.xe) (hc : X.calm = true) (hi : PI X tg iter wi) (hg : PG X tg g) (hb : PSs X body tb)
    (hs : ∀ x, foldedSetIterable iter X.env x = pure x := by intro _; rfl) : PS X (.For tg iter body [] pos) (tFor wi g tb) := by
  intro pins s σ H D I h
  refine wpAny_For (thn (hi pins s σ H _ I h) fun v s1 h1 => thn h1 fun itv s2 h2 => ?_) hs
  obtain ⟨it, fp, tn, J, H2, e, I2, T, st2, f2, W, ⟨m0, w0⟩, turn⟩ := h2
  subst e
  -- what stays true of the iterator's objects through the loop
  have stat : ∀ {H' : Hp}, (∀ b ∈ fp, H' b = none) → ∀ b ∈ fp, FpOk X pins H' b := fun hn b hb => ⟨hn b hb, (f2 b hb).2⟩
  refine codeAny_forLoop_any (fun n s' => ∃ i σ' H', Inv X pins σ' H' s' ∧ tn i s'.heap ∧ (∀ b ∈ fp, H' b = none) ∧ W i n σ' H') ?_ m0 ⟨0, σ, H2, I2, st2, fun b hb => (f2 b hb).1, w0⟩
  rintro n s3 ⟨i, σ3, H3, I3, st3, fr3, w3⟩
  rcases turn i n σ3 H3 w3 with ⟨stop, qn⟩ | ⟨go, N, hN, step⟩
  · refine wpAny_passesOwn hp (thn (T.done X rfl rfl rfl hc i pins s3 σ3 H3 X.xe I3 (stat fr3) st3 stop) fun r s4 ⟨hr, I4⟩ => ?_)
    subst hr
    exact wpAny_execs_nil ⟨σ3, H3, I4, qn⟩
  · refine wpAny_passesOwn hp (thn (T.item X rfl rfl rfl hc i pins s3 σ3 H3 X.xe I3 (stat fr3) st3 go) fun r s4 ⟨u, hr, h4⟩ => ?_)
    subst hr
    refine wpAny_passesOwn hp (thn h4 fun _ s5 ⟨x, H5, I5, r5, y5, st5, fr5⟩ => ?_)
    have I5' := I5.pinned (stat fr5) (T.obj _ _ st5)
    refine wpAny_passesOwn hp (thn (hg _ s5 σ3 H5 x u _ I5' r5 (step x H5 y5)) fun _ s6 ⟨σ6, H6, I6, q6⟩ => ?_)
    refine wpAny_passesOwn hp (thn (hb _ s6 σ6 H6 _ I6 q6) fun f s7 q7 => ?_)
    have again : ∀ {σ7 : St} {H7 : Hp}, Inv X (pins ++ pinsAt fp s5.heap) σ7 H7 s7 → N σ7 H7 → ∃ m, m < n ∧ ∃ i σ' H', Inv X pins σ' H' s7 ∧ tn i s7.heap ∧ (∀ b ∈ fp, H' b = none) ∧ W i m σ' H' := fun {σ7 H7} I7 n7 => by
      obtain ⟨m', hm, w7⟩ := hN σ7 H7 n7
      refine ⟨m', hm, i + 1, σ7, H7, I7.unpinned, T.keep _ _ _ st5 fun b hb o e => (I7.pin (b, o) (List.mem_append_right _ (List.mem_append_right _ (mem_pinsAt hb e)))).1, fun b hb => ?_, w7⟩
      obtain ⟨o, e, d⟩ := T.obj _ _ st5 b hb
      exact (I7.pin (b, o) (List.mem_append_right _ (List.mem_append_right _ (mem_pinsAt hb e)))).2.1
    cases f with
    | next => obtain ⟨σ7, H7, I7, n7⟩ := q7; exact again I7 n7
    | cont => obtain ⟨σ7, H7, I7, n7⟩ := q7; exact again I7 n7
    | brk => obtain ⟨σ7, H7, I7, q7⟩ := q7; exact ⟨σ7, H7, I7.unpinned, q7⟩
    | ret v => obtain ⟨x7, σ7, H7, I7, r7, q7⟩ := q7; exact ⟨x7, σ7, H7, I7.unpinned, r7, q7⟩
end

/-! ### the forms one uses -/
theorem for_list {K : PySem.W.Frag} {a : Addr} {xs : List V} {g : TG} {tb : TS} {D : Ends} {σ : St} {H : Hp} (Pv : Nat → St → Hp → Prop) (h0 : Pv 0 σ H) (hl : ∀ i σ H, i ≤ xs.length → Pv i σ H → SqL K H a xs)
    (hs : ∀ i x σ H, xs[i]? = some x → Pv i σ H → g x σ H fun σ2 H2 => tb { D with nx := Pv (i + 1), ct := Pv (i + 1), bk := D.nx } σ2 H2) (hd : ∀ σ H, Pv xs.length σ H → D.nx σ H) :
    ∃ W : Nat → Nat → St → Hp → Prop, (∃ m, W 0 m σ H) ∧ ∀ i m σ H, W i m σ H →
      ((Itl K a).stop i H ∧ D.nx σ H) ∨ ((Itl K a).go i H ∧ ∃ N : St → Hp → Prop, (∀ σ' H', N σ' H' → ∃ m', m' < m ∧ W (i + 1) m' σ' H') ∧ ∀ x H', (Itl K a).yld i H x H' → g x σ H' fun σ2 H2 => tb { D with nx := N, ct := N, bk := D.nx } σ2 H2) := by
  refine ⟨fun i m σ H => m = xs.length - i ∧ i ≤ xs.length ∧ Pv i σ H, ⟨xs.length, by simp, Nat.zero_le _, h0⟩, ?_⟩
  rintro i m σ H ⟨rfl, hi, p⟩
  have q := hl i σ H hi p
  by_cases hlt : i < xs.length
  · refine .inr ⟨⟨xs, xs[i], q, by simp [hlt]⟩, Pv (i + 1), fun σ' H' p' => ⟨xs.length - (i + 1), by omega, rfl, hlt, p'⟩, fun x H' y => ?_⟩
    obtain ⟨e, y⟩ := y
    subst e
    exact hs i x σ _ (y xs q) p
  · have e : i = xs.length := by omega
    subst e
    exact .inl ⟨⟨xs, q, Nat.le_refl _⟩, hd σ H p⟩
theorem for_range {lo : Int} {n : Nat} {g : TG} {tb : TS} {D : Ends} {σ : St} {H : Hp} (Pv : Nat → St → Hp → Prop) (h0 : Pv 0 σ H)
    (hs : ∀ i σ H, i < n → Pv i σ H → g (.int (lo + i)) σ H fun σ2 H2 => tb { D with nx := Pv (i + 1), ct := Pv (i + 1), bk := D.nx } σ2 H2) (hd : ∀ σ H, Pv n σ H → D.nx σ H) :
    ∃ W : Nat → Nat → St → Hp → Prop, (∃ m, W 0 m σ H) ∧ ∀ i m σ H, W i m σ H →
      ((Itr lo n).stop i H ∧ D.nx σ H) ∨ ((Itr lo n).go i H ∧ ∃ N : St → Hp → Prop, (∀ σ' H', N σ' H' → ∃ m', m' < m ∧ W (i + 1) m' σ' H') ∧ ∀ x H', (Itr lo n).yld i H x H' → g x σ H' fun σ2 H2 => tb { D with nx := N, ct := N, bk := D.nx } σ2 H2) := by
  refine ⟨fun i m σ H => m = n - i ∧ i ≤ n ∧ Pv i σ H, ⟨n, by simp, Nat.zero_le _, h0⟩, ?_⟩
  rintro i m σ H ⟨rfl, hi, p⟩
  by_cases hlt : i < n
  · refine .inr ⟨hlt, Pv (i + 1), fun σ' H' p' => ⟨n - (i + 1), by omega, rfl, hlt, p'⟩, fun x H' y => ?_⟩
    obtain ⟨e, y⟩ := y
    subst e y
    exact hs i σ _ hlt p
  · have e : i = n := by omega
    subst e
    exact .inl ⟨Nat.le_refl _, hd σ H p⟩
end L2

namespace L2
open PySem PySem.Spec PyProof.Rows

noncomputable abbrev R2 := V → V → Hp → VK → Prop
noncomputable def OpR (X : Cx) (f : Value → Value → Sem Value) (r : R2) : Prop :=
  ∀ (pins : List (Addr × Obj)) (s : Shared) (σ : St) (H : Hp) (x y : V) (v u : Value) (Q : VK), Inv X pins σ H s → RelV x v → RelV y u → r x y H Q →
    wpAny (model X.prog X.w) X.A (f v u) (EP X pins σ Q) X.xe s
noncomputable def CallR (X : Cx) (f : Value) (r : List V → Hp → VK → Prop) : Prop :=
  ∀ (pins : List (Addr × Obj)) (s : Shared) (σ : St) (H : Hp) (xs : List V) (us : List Value) (Q : VK), Inv X pins σ H s → Vals xs us → r xs H Q →
    wpAny (model X.prog X.w) X.A (call f us) (EP X pins σ Q) X.xe s
noncomputable def TruR (X : Cx) (r : V → Hp → (Bool → Hp → Prop) → Prop) : Prop :=
  ∀ (pins : List (Addr × Obj)) (s : Shared) (σ : St) (H : Hp) (x : V) (v : Value) (Q : Bool → Hp → Prop), Inv X pins σ H s → RelV x v → r x H Q →
    wpAny (model X.prog X.w) X.A (truthy v) (TP X pins σ Q) X.xe s

noncomputable def tOp (r : R2) (ta tb : TE) : TE := fun σ H Q => ta σ H fun x H1 => tb σ H1 fun y H2 => r x y H2 Q
noncomputable def rI (C : Int → Int → Prop) (g : Int → Int → V) : R2 := fun x y H Q => ∃ i j, x = .int i ∧ y = .int j ∧ C i j ∧ Q (g i j) H
noncomputable def rI0 (g : Int → Int → V) : R2 := fun x y H Q => ∃ i j, x = .int i ∧ y = .int j ∧ Q (g i j) H
section
variable {X : Cx} {a b c : Expr} {ta tb tc : TE} {pos : Pos}

theorem binT (ha : PE X a ta) (hb : PE X b tb) {pins : List (Addr × Obj)} {s : Shared} {σ : St} {H : Hp} {R : V → V → Hp → Prop} (I : Inv X pins σ H s)
    (h : ta σ H fun x H1 => tb σ H1 fun y H2 => R x y H2) {Q : Value → Shared → Prop} {f : Value → Value → Sem Value}
    (hf : ∀ v u s2 x y H2, Inv X pins σ H2 s2 → RelV x v → RelV y u → R x y H2 → wpAny (model X.prog X.w) X.A (f v u) Q X.xe s2) :
    wpAny (model X.prog X.w) X.A (eval a X.env) (fun v s₁ => wpAny (model X.prog X.w) X.A (eval b X.env) (fun u s₂ => wpAny (model X.prog X.w) X.A (f v u) Q X.xe s₂) X.xe s₁) X.xe s := by
  refine thn (ha pins s σ H _ I h) fun v s1 ⟨x, H1, I1, r1, q1⟩ => ?_
  refine thn (hb pins s1 σ H1 _ I1 q1) fun u s2 ⟨y, H2, I2, r2, q2⟩ => ?_
  exact hf v u s2 x y H2 I2 r1 r2 q2

theorem pe_op {op : Operator} {r : R2} (ho : OpR X (binaryOp op) r) (ha : PE X a ta) (hb : PE X b tb) : PE X (.BinOp a op b pos) (tOp r ta tb) := by
  intro pins s σ H Q I h
  exact wpAny_BinOp (binT ha hb I h fun v u s2 x y H2 I2 rx ry q => ho pins s2 σ H2 x y v u Q I2 rx ry q)
/-! ### ints -/
theorem opI {f : Value → Value → Sem Value} {C : Int → Int → Prop} {g : Int → Int → Int}
    (rule : ∀ (i j : Int) (t u : Tok) (s : Shared) (Q : Value → Shared → Prop) (E : Value → Shared → Prop), C i j → Q (.int (g i j) s.toks) { s with toks := s.toks + 1 } → wpAny (model X.prog X.w) X.A (f (.int i t) (.int j u)) Q E s) :
    OpR X f (rI C fun i j => .int (g i j)) := by
  intro pins s σ H x y v u Q I rx ry h
  obtain ⟨i, j, rfl, rfl, hc, q⟩ := h
  obtain ⟨t, rfl⟩ := rx
  obtain ⟨t', rfl⟩ := ry
  exact rule i j t t' s _ _ hc ⟨.int (g i j), H, I.tok _, ⟨_, rfl⟩, q⟩
theorem opI0 {f : Value → Value → Sem Value} {g : Int → Int → Int}
    (rule : ∀ (i j : Int) (t u : Tok) (s : Shared) (Q : Value → Shared → Prop) (E : Value → Shared → Prop), Q (.int (g i j) s.toks) { s with toks := s.toks + 1 } → wpAny (model X.prog X.w) X.A (f (.int i t) (.int j u)) Q E s) :
    OpR X f (rI0 fun i j => .int (g i j)) := by
  intro pins s σ H x y v u Q I rx ry h
  obtain ⟨i, j, rfl, rfl, q⟩ := h
  obtain ⟨t, rfl⟩ := rx
  obtain ⟨t', rfl⟩ := ry
  exact rule i j t t' s _ _ ⟨.int (g i j), H, I.tok _, ⟨_, rfl⟩, q⟩
theorem opB0 {f : Value → Value → Sem Value} {g : Int → Int → Bool}
    (rule : ∀ (i j : Int) (t u : Tok) (s : Shared) (Q : Value → Shared → Prop) (E : Value → Shared → Prop), Q (.bool (g i j)) s → wpAny (model X.prog X.w) X.A (f (.int i t) (.int j u)) Q E s) :
    OpR X f (rI0 fun i j => .bl (g i j)) := by
  intro pins s σ H x y v u Q I rx ry h
  obtain ⟨i, j, rfl, rfl, q⟩ := h
  obtain ⟨t, rfl⟩ := rx
  obtain ⟨t', rfl⟩ := ry
  exact rule i j t t' s _ _ ⟨.bl (g i j), H, I, rfl, q⟩

noncomputable def CDiv (i j : Int) : Prop := 0 < j ∧ j < 1073741824
noncomputable def CMul (i j : Int) : Prop := (-(2 ^ 64) < i ∧ i < 2 ^ 64) ∨ (-(2 ^ 64) < j ∧ j < 2 ^ 64)
theorem CMul.ok {i j : Int} (h : CMul i j) : IntMulOk i j := by
  rcases h with ⟨h1, h2⟩ | ⟨h1, h2⟩
  · exact .of_left (intBits_le_64 h1 h2)
  · exact .of_right (intBits_le_64 h1 h2)
theorem op_add : OpR X (binaryOp .Add) (rI0 fun i j => .int (i + j)) := opI0 fun _ _ _ _ _ _ _ q => add_int q
theorem op_sub : OpR X (binaryOp .Sub) (rI0 fun i j => .int (i - j)) := opI0 fun _ _ _ _ _ _ _ q => sub_int q
theorem op_mul : OpR X (binaryOp .Mult) (rI CMul fun i j => .int (i * j)) := opI fun _ _ _ _ _ _ _ hc q => mul_int q hc.ok
theorem op_fdiv : OpR X (binaryOp .FloorDiv) (rI CDiv fun i j => .int (i / j)) := opI fun i j _ _ _ _ _ hc q => by
  have h1 : (0 : Int) < j := hc.1
  have h2 : j < 1073741824 := hc.2
  exact floordiv_int (by omega) (by rw [Int.fdiv_eq_ediv_of_nonneg i (by omega)]; exact q) (.inl (PyProof.noPylong_small (by omega)))
theorem op_mod : OpR X (binaryOp .Mod) (rI (fun _ j => 0 < j) fun i j => .int (i % j)) := opI fun i j _ _ _ _ _ hc q => by
  have h1 : (0 : Int) < j := hc
  exact mod_int' (by omega) (by rw [Int.fmod_eq_emod_of_nonneg i (by omega)]; exact q)
/-! ### bools among ints: n += (a < b) -/
end

/-! ### comparisons -/
noncomputable def scal : V → V → Bool
  | .non, .non => true | .non, .int _ => true | .int _, .non => true | .non, .bl _ => true | .bl _, .non => true | .non, .str _ => true | .str _, .non => true
  | .int _, .int _ => true | .bl _, .bl _ => true | .str _, .str _ => true | .byt _, .byt _ => true
  | .int _, .str _ => true | .str _, .int _ => true | .bl _, .str _ => true | .str _, .bl _ => true
  | _, _ => false
noncomputable def rEq : R2 := fun x y H Q => scal x y = true ∧ Q (.bl (decide (x = y))) H
noncomputable def rNe : R2 := fun x y H Q => scal x y = true ∧ Q (.bl (!decide (x = y))) H

theorem dec_int {i j : Int} : decide (V.int i = V.int j) = (i == j) := by
  rw [Bool.eq_iff_iff]
  simp
theorem dec_bl {i j : Bool} : decide (V.bl i = V.bl j) = (i == j) := by
  rw [Bool.eq_iff_iff]
  simp
theorem dec_str {i j : Str} : decide (V.str i = V.str j) = (i == j) := by
  rw [Bool.eq_iff_iff]
  simp
theorem dec_byt {i j : Array UInt8} : decide (V.byt i = V.byt j) = (i.toList == j.toList) := by
  rw [Bool.eq_iff_iff]
  cases i
  cases j
  simp

section
variable {X : Cx} {a b c : Expr} {ta tb tc : TE} {pos : Pos}
theorem fin_bl {pins : List (Addr × Obj)} {σ : St} {H : Hp} {s : Shared} {Q : VK} {k k' : Bool} (I : Inv X pins σ H s) (q : Q (.bl k) H) (e : k = k') : EP X pins σ Q (.bool k') s := by
  subst e
  exact ⟨.bl k, H, I, rfl, q⟩
theorem op_eq : OpR X (compareOp .Eq) rEq := by
  intro pins s σ H x y v u Q I rx ry h
  obtain ⟨hs, q⟩ := h
  cases x with
  | non =>
    cases rx
    cases y with
    | non => cases ry; exact PySem.EqNone.eq_none_none (fin_bl I q (by simp))
    | bl j => cases ry; exact PySem.EqNone.eq_none_bool (fin_bl I q (by simp))
    | int j => obtain ⟨t', rfl⟩ := ry; exact PySem.EqNone.eq_none_int (fin_bl I q (by simp))
    | str j => obtain ⟨t', rfl⟩ := ry; exact PySem.EqNone.eq_none_str (fin_bl I q (by simp))
    | _ => exact absurd (show false = true from hs) Bool.false_ne_true
  | bl i =>
    cases rx
    cases y with
    | non => cases ry; exact PySem.EqNone.eq_bool_none (fin_bl I q (by simp))
    | bl j => cases ry; exact eq_bool (fin_bl I q dec_bl)
    | str j => obtain ⟨t', rfl⟩ := ry; exact PySem.EqMixed.eq_bool_str (fin_bl I q (by simp))
    | _ => exact absurd (show false = true from hs) Bool.false_ne_true
  | int i =>
    obtain ⟨t, rfl⟩ := rx
    cases y with
    | non => cases ry; exact PySem.EqNone.eq_int_none (fin_bl I q (by simp))
    | int j => obtain ⟨t', rfl⟩ := ry; exact eq_int (fin_bl I q dec_int)
    | str j => obtain ⟨t', rfl⟩ := ry; exact PySem.EqMixed.eq_int_str (fin_bl I q (by simp))
    | _ => exact absurd (show false = true from hs) Bool.false_ne_true
  | str i =>
    obtain ⟨t, rfl⟩ := rx
    cases y with
    | non => cases ry; exact PySem.EqNone.eq_str_none (fin_bl I q (by simp))
    | bl j => cases ry; exact PySem.EqMixed.eq_str_bool (fin_bl I q (by simp))
    | int j => obtain ⟨t', rfl⟩ := ry; exact PySem.EqMixed.eq_str_int (fin_bl I q (by simp))
    | str j => obtain ⟨t', rfl⟩ := ry; exact eq_str (fin_bl I q dec_str)
    | _ => exact absurd (show false = true from hs) Bool.false_ne_true
  | byt i =>
    obtain ⟨t, rfl⟩ := rx
    cases y with
    | byt j => obtain ⟨t', rfl⟩ := ry; exact PySem.W.eq_bytes (fin_bl I q dec_byt)
    | _ => exact absurd (show false = true from hs) Bool.false_ne_true
  | _ => cases y <;> exact absurd (show false = true from hs) Bool.false_ne_true
theorem op_ne : OpR X (compareOp .NotEq) rNe := by
  intro pins s σ H x y v u Q I rx ry h
  obtain ⟨hs, q⟩ := h
  cases x with
  | non =>
    cases rx
    cases y with
    | non => cases ry; exact PySem.EqNone.ne_none_none (fin_bl I q (by simp))
    | bl j => cases ry; exact PySem.EqNone.ne_none_bool (fin_bl I q (by simp))
    | int j => obtain ⟨t', rfl⟩ := ry; exact PySem.EqNone.ne_none_int (fin_bl I q (by simp))
    | str j => obtain ⟨t', rfl⟩ := ry; exact PySem.EqNone.ne_none_str (fin_bl I q (by simp))
    | _ => exact absurd (show false = true from hs) Bool.false_ne_true
  | bl i =>
    cases rx
    cases y with
    | non => cases ry; exact PySem.EqNone.ne_bool_none (fin_bl I q (by simp))
    | bl j => cases ry; exact ne_bool (fin_bl I q (congrArg not dec_bl))
    | str j => obtain ⟨t', rfl⟩ := ry; exact PySem.EqMixed.ne_bool_str (fin_bl I q (by simp))
    | _ => exact absurd (show false = true from hs) Bool.false_ne_true
  | int i =>
    obtain ⟨t, rfl⟩ := rx
    cases y with
    | non => cases ry; exact PySem.EqNone.ne_int_none (fin_bl I q (by simp))
    | int j => obtain ⟨t', rfl⟩ := ry; exact ne_int (fin_bl I q (congrArg not dec_int))
    | str j => obtain ⟨t', rfl⟩ := ry; exact PySem.EqMixed.ne_int_str (fin_bl I q (by simp))
    | _ => exact absurd (show false = true from hs) Bool.false_ne_true
  | str i =>
    obtain ⟨t, rfl⟩ := rx
    cases y with
    | non => cases ry; exact PySem.EqNone.ne_str_none (fin_bl I q (by simp))
    | bl j => cases ry; exact PySem.EqMixed.ne_str_bool (fin_bl I q (by simp))
    | int j => obtain ⟨t', rfl⟩ := ry; exact PySem.EqMixed.ne_str_int (fin_bl I q (by simp))
    | str j => obtain ⟨t', rfl⟩ := ry; exact ne_str (fin_bl I q (congrArg not dec_str))
    | _ => exact absurd (show false = true from hs) Bool.false_ne_true
  | byt i =>
    obtain ⟨t, rfl⟩ := rx
    cases y with
    | byt j => obtain ⟨t', rfl⟩ := ry; exact PySem.W.ne_bytes (fin_bl I q (congrArg not dec_byt))
    | _ => exact absurd (show false = true from hs) Bool.false_ne_true
  | _ => cases y <;> exact absurd (show false = true from hs) Bool.false_ne_true

theorem op_lt : OpR X (compareOp .Lt) (rI0 fun i j => .bl (decide (i < j))) := opB0 fun _ _ _ _ _ _ _ q => lt_int q
theorem op_le : OpR X (compareOp .LtE) (rI0 fun i j => .bl (decide (i ≤ j))) := opB0 fun _ _ _ _ _ _ _ q => le_int q
theorem op_gt : OpR X (compareOp .Gt) (rI0 fun i j => .bl (decide (j < i))) := opB0 fun _ _ _ _ _ _ _ q => gt_int q
theorem op_ge : OpR X (compareOp .GtE) (rI0 fun i j => .bl (decide (j ≤ i))) := opB0 fun _ _ _ _ _ _ _ q => ge_int q
theorem op_in_str : OpR X (compareOp .In) (fun x y H Q => ∃ i j, x = .str i ∧ y = .str j ∧ Q (.bl (!(Builtin.Str.occurrences j i 0 j.length 1).isEmpty)) H) := by
  intro pins s σ H x y v u Q I rx ry h
  obtain ⟨i, j, rfl, rfl, q⟩ := h
  obtain ⟨t, rfl⟩ := rx
  obtain ⟨t', rfl⟩ := ry
  exact in_str (fin_bl I q rfl)

theorem op_isN : OpR X (compareOp .Is) (fun x y H Q => y = .non ∧ Q (.bl (decide (x = .non))) H) := by
  intro pins s σ H x y v u Q I rx ry h
  obtain ⟨rfl, q⟩ := h
  cases ry
  refine is_none_gen (fin_bl I q ?_)
  cases x <;> first
    | (cases rx; rfl)
    | (obtain ⟨t, rfl⟩ := rx; rfl)
theorem nomark (b : Expr) {op : CmpOp} (h : op ≠ .In := by decide) (h2 : op ≠ .NotIn := by decide) : behindInMarks op b = false := by
  have e1 : (op == CmpOp.In) = false := by cases op <;> first | rfl | exact absurd rfl h
  have e2 : (op == CmpOp.NotIn) = false := by cases op <;> first | rfl | exact absurd rfl h2
  cases b <;> simp [behindInMarks, e1, e2]
theorem pe_cmpR {op : CmpOp} {r : R2} (ho : OpR X (compareOp op) r) (ha : PE X a ta) (hb : PE X b tb) (hm : behindInMarks op b = false) : PE X (.Compare a [op] [b] pos) (tOp r ta tb) := by
  intro pins s σ H Q I h
  exact wpAny_Compare1 (binT ha hb I h fun v u s2 x y H2 I2 rx ry q => ho pins s2 σ H2 x y v u Q I2 rx ry q) hm
noncomputable def tTest (t : TE) : TT := fun σ H Q => t σ H fun x H' => ∃ k, x = .bl k ∧ Q k H'
theorem pt_cmpR {op : CmpOp} {r : R2} (ho : OpR X (compareOp op) r) (ha : PE X a ta) (hb : PE X b tb) (hm : behindInMarks op b = false) : PT X (.Compare a [op] [b] pos) (tTest (tOp r ta tb)) := by
  intro pins s σ H Q I h
  refine wpAny_isTrue_Compare1 (thn (ha pins s σ H _ I h) fun v s1 ⟨x, H1, I1, r1, q1⟩ => thn (hb pins s1 σ H1 _ I1 q1) fun u s2 ⟨y, H2, I2, r2, q2⟩ =>
    thn (ho pins s2 σ H2 x y v u _ I2 r1 r2 q2) fun c s3 ⟨z, H3, I3, r3, k, e, q3⟩ => ?_) hm
  subst e
  cases r3
  exact wpAny_truthy_bool ⟨H3, I3, q3⟩
noncomputable def tChain (r r' : R2) (ta tb tc : TE) : TE := fun σ H Q => ta σ H fun x H1 => tb σ H1 fun y H2 => r x y H2 fun z H3 => ∃ k, z = .bl k ∧
  (if k = true then tc σ H3 fun w' H4 => r' y w' H4 Q else Q (.bl false) H3)
theorem pe_chain {op op' : CmpOp} {r r' : R2} (ho : OpR X (compareOp op) r) (ho' : OpR X (compareOp op') r') (ha : PE X a ta) (hb : PE X b tb) (hc : PE X c tc)
    (hm : lastMarks [op, op'] [b, c] = false := by with_unfolding_all rfl) : PE X (.Compare a [op, op'] [b, c] pos) (tChain r r' ta tb tc) := by
  intro pins s σ H Q I h
  refine Compare_chain (thn (ha pins s σ H _ I h) fun v s1 ⟨x, H1, I1, r1, q1⟩ => chain_link (thn (hb pins s1 σ H1 _ I1 q1) fun u s2 ⟨y, H2, I2, r2, q2⟩ =>
    thn (ho pins s2 σ H2 x y v u _ I2 r1 r2 q2) fun d s3 ⟨z, H3, I3, r3, k, e, q3⟩ => ?_)) hm
  subst e
  cases r3
  refine wpAny_truthy_bool ?_
  cases k with
  | false => exact ite_ff ⟨.bl false, H3, I3, rfl, q3⟩
  | true => exact ite_tt (chain_last (thn (hc pins s3 σ H3 _ I3 q3) fun w' s4 ⟨z', H4, I4, r4, q4⟩ => ho' pins s4 σ H4 y z' u w' Q I4 r2 r4 q4))
/-! ### truth -/
noncomputable def TruV (K : PySem.W.Frag) (x : V) (H : Hp) (k : Bool) : Prop :=
  match x with
  | .non => k = false
  | .bl b => k = b
  | .int i => k = (i != 0)
  | .str y => y.length ≤ sizeLine ∧ k = ((y.length : Int) != 0)
  | .byt y => y.size ≤ sizeLine ∧ k = ((y.size : Int) != 0)
  | .ref p => (∃ xs, SqL K H p xs ∧ k = !xs.isEmpty) ∨ (∃ xs, SqT K H p xs ∧ k = !xs.isEmpty) ∨ ∃ kvs, H p = some (.dK kvs) ∧ k = !kvs.isEmpty
  | _ => False
theorem isEmpty_kv {κ : Type} {kvs : List (κ × V)} {vs : List (κ × Value)} (r : KV kvs vs) : (!vs.isEmpty) = !kvs.isEmpty := by
  cases r <;> rfl
theorem isEmpty_of {xs : List V} {its : List Value} (r : Vals xs its) : (!its.toArray.isEmpty) = !xs.isEmpty := by
  cases r <;> simp
theorem line63 : (sizeLine : Nat) < 2 ^ 63 := by rw [sizeLine_eq]; decide
theorem tru_ok : TruR X (fun x H Q => ∃ k, TruV X.K x H k ∧ Q k H) := by
  intro pins s σ H x v Q I rx h
  obtain ⟨k, e, q⟩ := h
  have hl := line63
  have hs : sizeLine = 16777216 := sizeLine_eq
  cases x with
  | non =>
    cases rx
    have e' : k = false := e
    subst e'
    exact truthy_none ⟨H, I, q⟩
  | bl b =>
    cases rx
    have e' : k = b := e
    subst e'
    exact wpAny_truthy_bool ⟨H, I, q⟩
  | int i =>
    obtain ⟨t, rfl⟩ := rx
    have e' : k = (i != 0) := e
    subst e'
    exact PySem.P.truthy_int ⟨H, I, q⟩
  | str y =>
    obtain ⟨t, rfl⟩ := rx
    obtain ⟨hy, e'⟩ : y.length ≤ sizeLine ∧ k = ((y.length : Int) != 0) := e
    subst e'
    exact PySem.P.truthy_str (by omega) ⟨H, I.tok _, q⟩
  | byt y =>
    obtain ⟨t, rfl⟩ := rx
    obtain ⟨hy, e'⟩ : y.size ≤ sizeLine ∧ k = ((y.size : Int) != 0) := e
    subst e'
    exact PySem.W.truthy_bytes (by omega) ⟨H, I.tok _, q⟩
  | ref p =>
    cases rx
    have e' : (∃ xs, SqL X.K H p xs ∧ k = !xs.isEmpty) ∨ (∃ xs, SqT X.K H p xs ∧ k = !xs.isEmpty) ∨ ∃ kvs, H p = some (.dK kvs) ∧ k = !kvs.isEmpty := e
    rcases e' with ⟨xs, hx, e'⟩ | ⟨xs, hx, e'⟩ | ⟨kvs, hx, e'⟩
    · subst e'
      obtain ⟨its, r, pl, hz⟩ := I.list hx
      have hlen := r.length
      exact wpAny_truthy_list pl.isList (by simp only [List.size_toArray]; omega) ⟨H, I.tok _, by rw [isEmpty_of r]; exact q⟩
    · subst e'
      obtain ⟨its, r, pl, hz⟩ := I.tuple hx
      have hlen := r.length
      exact truthy_tuple pl (by simp only [List.size_toArray]; omega) ⟨H, I.tok _, by rw [isEmpty_of r]; exact q⟩
    · subst e'
      obtain ⟨hz, hS, vs, r, m⟩ : kvs.length ≤ sizeLine ∧ (p == sysModules) = false ∧ ∃ vs, KV kvs vs ∧ s.heap.DictOf (mixKind X.prog X.w) p vs := I.hok p _ hx
      have hlen : kvs.length = vs.length := Paired.length r
      exact wpAny_truthy_dict hS m (by omega) ⟨H, I.tok _, by rw [isEmpty_kv r]; exact q⟩
  | _ => exact (show False from e).elim
theorem pt_truth (ha : PE X a ta) (he : ∀ whole, isTrue a X.env whole = (do let v ← whole; standAt a.pos; holding [v] (truthy v))) :
    PT X a (fun σ H Q => ta σ H fun x H' => ∃ k, TruV X.K x H' k ∧ Q k H') := by
  intro pins s σ H Q I h
  exact isTrue_plain (thn (ha pins s σ H _ I h) fun v s1 ⟨x, H1, I1, r1, q1⟩ => tru_ok pins s1 σ H1 x v Q I1 r1 q1) (he _)

/-! ### strs and bytes -/
theorem op_add_str : OpR X (binaryOp .Add) (fun x y H Q => ∃ i j, x = .str i ∧ y = .str j ∧ i.length + j.length ≤ sizeLine ∧ Q (.str (i ++ j)) H) := by
  intro pins s σ H x y v u Q I rx ry h
  obtain ⟨i, j, rfl, rfl, hz, q⟩ := h
  obtain ⟨t, rfl⟩ := rx
  obtain ⟨t', rfl⟩ := ry
  exact add_str (fun t' tk => ⟨.str (i ++ j), H, I.tok _, ⟨_, rfl⟩, q⟩) hz
/-! ### scalar builtins, by CallR -/
theorem vals1 {x : V} {us : List Value} (r : Vals [x] us) : ∃ u, us = [u] ∧ RelV x u := by
  cases r with
  | cons r1 r2 => cases r2; exact ⟨_, rfl, r1⟩
theorem vals2 {x y : V} {us : List Value} (r : Vals [x, y] us) : ∃ u w', us = [u, w'] ∧ RelV x u ∧ RelV y w' := by
  cases r with
  | cons r1 r2 =>
    cases r2 with
    | cons r3 r4 => cases r4; exact ⟨_, _, rfl, r1, r3⟩
theorem call_str_int : CallR X (.type "str") (fun xs H Q => ∃ i, xs = [.int i] ∧ i.natAbs.log2 < 1920 ∧ Q (.str (toString i)) H) := by
  intro pins s σ H xs us Q I r h
  obtain ⟨i, rfl, hz, q⟩ := h
  obtain ⟨u, rfl, t, rfl⟩ := vals1 r
  exact PySem.P.str_of_int hz ⟨.str _, H, I.tok _, ⟨_, rfl⟩, q⟩
end
end L2

namespace L2
open PySem PySem.Spec PyProof.Rows

/-! ### an instance, its attributes a map -/
structure ObjM (h : Heap) (x dx C : Addr) (mA : Str → Option Value) : Prop where
  obj : h.get? x = some (PySem.W.instObj C dx)
  ns : h.Ns1 dx mA
  ne : dx ≠ x

theorem lookIn_ns {h : Heap} {dx : Addr} {mA : Str → Option Value} (n : h.Ns1 dx mA) : ∃ od, h.get? dx = some od ∧ ∀ name, PySem.W.lookIn name od = some (mA name) := by
  obtain ⟨o, es, ep, ho, hd, hk, _, hm⟩ := n
  refine ⟨o, ho, fun name => ?_⟩
  have e := hm name
  unfold nsFind findBy at e
  rw [← Array.find?_toList] at e
  unfold PySem.W.lookIn
  rw [hd]
  dsimp only
  split
  · rename_i y q
    rw [q] at e
    exact congrArg some e
  · rename_i q
    rw [q] at e
    have a : es.toList.any (·.refKey) = false := by
      rw [List.any_eq_false]
      intro y hy
      obtain ⟨z, t, hkey⟩ := hk y (Array.mem_toList_iff.mp hy)
      simp [DictEntry.refKey, hkey]
    have a' : ¬ es.toList.any (·.refKey) = true := by rw [a]; exact Bool.false_ne_true
    rw [if_neg a']
    exact congrArg some e

theorem ObjM.look {h : Heap} {x dx C : Addr} {mA : Str → Option Value} (I : ObjM h x dx C mA) : ∃ od, PySem.W.InstAt h x (PySem.W.instObj C dx) C (some od) ∧ ∀ name, PySem.W.lookIn name od = some (mA name) :=
  let ⟨od, ho, hl⟩ := lookIn_ns I.ns
  ⟨od, ⟨I.obj, rfl, rfl, ho⟩, hl⟩

section
variable {prog : Program} {w : World} {A : Around} {E : Value → Shared → Prop} {s : Shared} {K : PySem.W.Frag} {x dx C f : Addr} {mA : Str → Option Value} {name : Str} {v : Value}

theorem get_map {expr : Bool} {Q : Value → Shared → Prop} (X : K.In s.heap) (I : ObjM s.heap x dx C mA) (hg : PySem.W.plainGet K C name = true) (hh : PySem.W.hasDictIn K C = true)
    (ha : PySem.W.findIn K (.ref C) name = some none) (hv : mA name = some v) (hv' : PySem.W.handedIn v = true) (h : Q v { s with toks := s.toks + 1 }) :
    wpAny (model prog w) A (getAttr (.ref x) name expr) Q E s := by
  obtain ⟨od, J, hl⟩ := I.look
  exact PySem.W.get_value X J (PySem.W.plainGet_of hg).1 (PySem.W.findObj_own hh ha rfl (by rw [hl, hv])) hv' h

theorem set_map {ns : List Str} {Q : Unit → Shared → Prop} (X : K.In s.heap) (I : ObjM s.heap x dx C mA)
    (hs : PySem.W.findIn K (.ref C) "__setattr__" = some (some (.builtin "object.__setattr__"))) (hp : PySem.W.plainOver K C = true) (ht : PySem.W.takerIn K C name = some none) (hh : PySem.W.hasDictIn K C = true)
    (hw : PySem.Within mA ns) (hsz : ns.length ≤ sizeLine)
    (h : ∀ h', ObjM h' x dx C (fun y => if y = name then some v else mA y) → Heap.SameBut dx s.heap h' → Q () { s with heap := h', toks := s.toks + 2 }) :
    wpAny (model prog w) A (setAttr (.ref x) name v) Q E s := by
  obtain ⟨od, J, hl⟩ := I.look
  refine PySem.W.set_plain X J hs (PySem.W.osa_open (s := { s with toks := s.toks + 1 }) (r := none) X J hp ht fun b => ?_)
  obtain ⟨cd, hc, hd'⟩ := PySem.W.any_some hh
  have hx : s.heap.get? x = some ⟨.ref C, some dx, .plain, #[]⟩ := I.obj
  refine wpAny_bind (wpAny_pure (wpAny_bind (wpAny_bind (wpAny_loadPart hx (wpAny_bind (PySem.W.Looks.here (s := { s with toks := s.toks + 1 }) (PySem.W.looks_clsIn X hc) ?_))))))
  rw [hd']
  refine wpAny_pure (a := some dx) (wpAny_bind (wpAny_pure (wpAny_bind ?_)))
  refine wpAny_nsSet1 (s := { s with toks := s.toks + 1 }) I.ns fun h' hn2 hs2 => ?_
  obtain ⟨oD, esD, epD, hoD, hdD, hcD⟩ := hn2.count (PySem.Within.cons name v hw)
  refine wpAny_bind (wpAny_lookBehind hoD (by rw [hdD]; exact pastItsLine_dict (Nat.le_trans hcD (by rw [List.length_cons]; omega))) ?_)
  exact wpAny_pure (h _ ⟨(hs2.2 _ (Ne.symm I.ne)).trans I.obj, hn2, I.ne⟩ hs2)

theorem make_map {R : Result → Shared → Prop} {vs : List Value} {kw : List (Str × Value)} (X : K.In s.heap) (hm : PySem.W.makesIn K C = true)
    (hi : PySem.W.findIn K (.ref C) "__init__" = some (some (.ref f))) (hf : PySem.W.typeIn K (.ref f) = some (.type "function"))
    (h : codeAny (model prog w) (A.under (.builtin "type.__call__" ⟨.ref C :: vs, kw⟩)) (.call (.ref f) ⟨.ref (s.heap.objs.size + 1) :: vs, kw⟩) (PySem.W.InitBack (s.heap.objs.size + 1) R)
      { s with heap := (s.heap.push PySem.W.emptyDict).push (PySem.W.instObj C s.heap.objs.size) }) :
    codeAny (model prog w) A (.call (.ref C) ⟨vs, kw⟩) R s := by
  obtain ⟨hh, g, d, t, os⟩ := s
  exact PySem.W.make_core (PySem.W.makes_of X hm) (PySem.W.looks_findIn X hi) (fun self => PySem.W.bind_fn X self hf) (.inl rfl) h
end

/-! ### the attributes as a list of pairs -/
noncomputable def putF (f : Str) (v : V) : List (Str × V) → List (Str × V)
  | [] => [(f, v)]
  | (g, x) :: r => if g = f then (g, v) :: r else (g, x) :: putF f v r
theorem lookup_putF (f g : Str) (v : V) : ∀ fs : List (Str × V), (putF f v fs).lookup g = if g = f then some v else fs.lookup g
  | [] => by
    show List.lookup g [(f, v)] = _
    by_cases h : g = f
    · have hb : (g == f) = true := beq_iff_eq.mpr h
      simp only [List.lookup, hb, if_pos h]
    · have hb : (g == f) = false := beq_eq_false_iff_ne.mpr h
      simp only [List.lookup, hb, if_neg h]
  | (k, x) :: r => by
    have ih := lookup_putF f g v r
    rw [show putF f v ((k, x) :: r) = (if k = f then (k, v) :: r else (k, x) :: putF f v r) from rfl]
    by_cases hk : k = f
    · rw [if_pos hk]
      by_cases h : g = k
      · have hb : (g == k) = true := beq_iff_eq.mpr h
        simp only [List.lookup, hb, if_pos (h.trans hk)]
      · have hb : (g == k) = false := beq_eq_false_iff_ne.mpr h
        simp only [List.lookup, hb, if_neg (fun e : g = f => h (e.trans hk.symm))]
    · rw [if_neg hk]
      by_cases h : g = k
      · have hb : (g == k) = true := beq_iff_eq.mpr h
        simp only [List.lookup, hb, if_neg (fun e : g = f => hk (h.symm.trans e))]
      · have hb : (g == k) = false := beq_eq_false_iff_ne.mpr h
        simp only [List.lookup, hb]
        exact ih
theorem keys_putF (f : Str) (v : V) : ∀ fs : List (Str × V), f ∈ (putF f v fs).map (·.1) ∧ ∀ g, g ∈ fs.map (·.1) → g ∈ (putF f v fs).map (·.1)
  | [] => ⟨by simp [putF], fun g h => by simp at h⟩
  | (k, x) :: r => by
    obtain ⟨i1, i2⟩ := keys_putF f v r
    rw [show putF f v ((k, x) :: r) = (if k = f then (k, v) :: r else (k, x) :: putF f v r) from rfl]
    by_cases hk : k = f
    · rw [if_pos hk]
      subst hk
      exact ⟨by simp, fun g h => by simpa using h⟩
    · rw [if_neg hk]
      refine ⟨?_, fun g h => ?_⟩
      · rw [List.map_cons]
        exact List.mem_cons_of_mem _ i1
      · rw [List.map_cons] at h ⊢
        rcases List.mem_cons.mp h with e | e
        · exact List.mem_cons.mpr (.inl e)
        · exact List.mem_cons_of_mem _ (i2 g e)
theorem length_putF (f : Str) (v : V) : ∀ fs : List (Str × V), (putF f v fs).length ≤ fs.length + 1
  | [] => by simp [putF]
  | (k, x) :: r => by
    have ih := length_putF f v r
    rw [show putF f v ((k, x) :: r) = (if k = f then (k, v) :: r else (k, x) :: putF f v r) from rfl]
    by_cases hk : k = f
    · rw [if_pos hk, List.length_cons, List.length_cons]; omega
    · rw [if_neg hk, List.length_cons, List.length_cons]; omega

theorem RelO.some_of {v : V} {o : Option Value} (r : RelO (some v) o) : ∃ u, o = some u ∧ RelV v u := by
  cases o with
  | none => exact (show False from r).elim
  | some u => exact ⟨u, rfl, r⟩
theorem handed_of {v : V} {u : Value} (r : RelV v u) : PySem.W.handedIn u = true := by
  cases v with
  | non => cases (show u = Value.none from r); rfl
  | bl b => cases (show u = Value.bool b from r); rfl
  | int i => obtain ⟨t, e⟩ := (show ∃ t, u = Value.int i t from r); cases e; rfl
  | str x => obtain ⟨t, e⟩ := (show ∃ t, u = Value.str x t from r); cases e; rfl
  | byt b => obtain ⟨t, e⟩ := (show ∃ t, u = Value.bytes b t from r); cases e; rfl
  | flt b => obtain ⟨t, e⟩ := (show ∃ t, u = Value.float b t from r); cases e; rfl
  | ref a => cases (show u = Value.ref a from r); rfl
  | ty n => cases (show u = Value.type n from r); rfl

section
variable {P : Program} {w : World} {H H' : Hp} {h h' : Heap} {a C dx : Addr} {fs fs' : List (Str × V)}
theorem ins_get (hok : HOk P w H h) (e : H a = some (.ins C dx fs)) : ∃ mA, ObjM h a dx C mA ∧ (∀ f, RelO (fs.lookup f) (mA f)) ∧ PySem.Within mA (fs.map (·.1)) ∧ fs.length ≤ 1000 ∧ H dx = some (.own a) := by
  obtain ⟨d, z, ne, ob, mA, n, r, q⟩ := (show ObjOk P w H h a (.ins C dx fs) from hok a _ e)
  exact ⟨mA, ⟨ob, n, ne⟩, r, q, z, d⟩
end

/-! ### what of the text a class must have -/
structure Cls (K : PySem.W.Frag) (C : Addr) : Prop where
  pg : PySem.W.plainGet K C Str.empty = true
  hd : PySem.W.hasDictIn K C = true
  po : PySem.W.plainOver K C = true
  sa : PySem.W.findIn K (.ref C) "__setattr__" = some (some (.builtin "object.__setattr__"))
theorem Cls.get {K : PySem.W.Frag} {C : Addr} (c : Cls K C) (f : Str) : PySem.W.plainGet K C f = true := c.pg
noncomputable def NoAttr (K : PySem.W.Frag) (C : Addr) (f : Str) : Prop := PySem.W.findIn K (.ref C) f = some none
theorem NoAttr.taker {K : PySem.W.Frag} {C : Addr} {f : Str} (n : NoAttr K C f) : PySem.W.takerIn K C f = some none := by
  unfold PySem.W.takerIn
  rw [show PySem.W.findIn K (.ref C) f = some none from n]
  rfl
structure Con (K : PySem.W.Frag) (C : Addr) (f : Str) (v : V) (u : Value) : Prop where
  at_ : PySem.W.findIn K (.ref C) f = some (some u)
  rel : RelV v u
  get : PySem.W.specialIn K u "__get__" = some none
  cp : PySem.W.copiedNames.contains f = false
structure Meth (K : PySem.W.Frag) (C : Addr) (m : Str) (f : Addr) : Prop where
  at_ : PySem.W.findIn K (.ref C) m = some (some (.ref f))
  fn : PySem.W.isFn K (.ref f) = true
  kp : PySem.W.keepIn K (.ref f) = true

section
variable {X : Cx} {pins : List (Addr × Obj)} {σ : St} {H : Hp} {s : Shared} {a C dx : Addr} {fs : List (Str × V)} {f : Str} {v : V} {A : Around} {E : Value → Shared → Prop}

theorem getattr_ok {b : Bool} {Q : Value → Shared → Prop} (I : Inv X pins σ H s) (e : H a = some (.ins C dx fs)) (c : Cls X.K C) (n : NoAttr X.K C f) (l : fs.lookup f = some v)
    (h : ∀ u s', Inv X pins σ H s' → RelV v u → Q u s') : wpAny (model X.prog X.w) A (getAttr (.ref a) f b) Q E s := by
  obtain ⟨mA, O, r, _, _, _⟩ := ins_get I.hok e
  obtain ⟨u, hu, ru⟩ := RelO.some_of (v := v) (o := mA f) (by rw [← l]; exact r f)
  exact get_map I.kIn O (c.get f) c.hd n hu (handed_of ru) (h u _ (I.tok _) ru)

theorem setattr_ok {y : V} {u : Value} {Q : Unit → Shared → Prop} (I : Inv X pins σ H s) (e : H a = some (.ins C dx fs)) (c : Cls X.K C) (n : NoAttr X.K C f) (hl : fs.length < 1000) (ry : RelV y u)
    (h : ∀ s', Inv X pins σ (upd H a (.ins C dx (putF f y fs))) s' → Q () s') : wpAny (model X.prog X.w) A (setAttr (.ref a) f u) Q E s := by
  obtain ⟨mA, O, r, wi, _, ho⟩ := ins_get I.hok e
  have hz : (fs.map (·.1)).length ≤ sizeLine := by rw [List.length_map, sizeLine_eq]; omega
  refine set_map I.kIn O c.sa c.po n.taker c.hd wi hz fun h' O' sb => h _ ?_
  have hd : ∃ o, h'.get? dx = some o := let ⟨o, _, _, e', _⟩ := O'.ns; ⟨o, e'⟩
  refine I.write (x := a) (e := dx) (by rw [e]; exact True.intro) (.inr ho) (fun b q hb z => (sb.2 b hb).trans z) hd ?_
  refine ⟨by rw [upd_ne O.ne]; exact ho, ?_, O.ne, O'.obj, _, O'.ns, fun g => ?_, fun g hg => ?_⟩
  · have := length_putF f y fs; omega
  · show RelO ((putF f y fs).lookup g) (if g = f then some u else mA g)
    rw [lookup_putF]
    by_cases q : g = f
    · rw [if_pos q, if_pos q]; exact ry
    · rw [if_neg q, if_neg q]; exact r g
  · by_cases q : g = f
    · rw [q]; exact (keys_putF f y fs).1
    · refine (keys_putF f y fs).2 g (wi g fun z => hg ?_)
      show (if g = f then some u else mA g) = none
      rw [if_neg q]; exact z

theorem Inv.made (I : Inv X pins σ H s) : Inv X pins σ (upd (upd H s.heap.objs.size (.own (s.heap.objs.size + 1))) (s.heap.objs.size + 1) (.ins C s.heap.objs.size []))
    { s with heap := (s.heap.push PySem.W.emptyDict).push (PySem.W.instObj C s.heap.objs.size) } := by
  have e1 : (s.heap.push PySem.W.emptyDict).get? s.heap.objs.size = some PySem.W.emptyDict := Heap.get?_push_size s.heap rfl
  have e2 : ((s.heap.push PySem.W.emptyDict).push (PySem.W.instObj C s.heap.objs.size)).get? (s.heap.objs.size + 1) = some (PySem.W.instObj C s.heap.objs.size) := by
    have := Heap.get?_push_size (s.heap.push PySem.W.emptyDict) (o := PySem.W.instObj C s.heap.objs.size) rfl
    rwa [Heap.size_push] at this
  have e3 : (s.heap.push PySem.W.emptyDict).Ns s.heap.objs.size (fun _ => none) := ⟨PySem.W.emptyDict, #[], _, e1, rfl, (fun e he => absurd he (by simp)), fun _ => rfl⟩
  have I1 := I.laid (a := s.heap.objs.size) (o := .own (s.heap.objs.size + 1)) (h' := s.heap.push PySem.W.emptyDict) (t' := s.toks) (fun b u q => Heap.get?_push_of_some _ q) (Nat.le_refl _) ⟨_, e1⟩
  refine I1.laid (a := s.heap.objs.size + 1) (o := .ins C s.heap.objs.size []) (t' := s.toks) (fun b u q => Heap.get?_push_of_some _ q) (Nat.le_of_eq (Heap.size_push _ _)) ?_
  have ne : s.heap.objs.size ≠ s.heap.objs.size + 1 := Nat.ne_of_lt (Nat.lt_succ_self _)
  refine ⟨by rw [upd_ne ne, upd_same], Nat.zero_le _, ne, e2, fun _ => none, (Heap.Ns1.of_empty e3).at fun o q => Heap.get?_push_of_some _ q, fun _ => True.intro, fun y hy => absurd rfl hy⟩

theorem attr_of {prog : Program} {w : World} {env : Env} {e : Expr} {f : Str} {pos : Pos} {s : Shared} {Q : Value → Shared → Prop} (hb : attributeBase e f env (eval e env) = eval e env)
    (h : wpAny (model prog w) A (eval e env) (fun o s₁ => wpAny (model prog w) A (getAttr o f true) Q E s₁) E s) : wpAny (model prog w) A (eval (.Attribute e f pos) env) Q E s :=
  Attribute_any_ h (by rw [arm_eval_Attribute, hb])
end

/-! ### readings and rules -/
noncomputable def tFld (K : PySem.W.Frag) (ta : TE) (f : Str) : TE := fun σ H Q => ta σ H fun x H1 => ∃ a C dx fs v, x = .ref a ∧ H1 a = some (.ins C dx fs) ∧ Cls K C ∧ NoAttr K C f ∧ fs.lookup f = some v ∧ Q v H1
noncomputable def sFld (K : PySem.W.Frag) (ta tv : TE) (f : Str) : TS := fun D σ H => tv σ H fun y H1 => ta σ H1 fun x H2 => ∃ a C dx fs, x = .ref a ∧ H2 a = some (.ins C dx fs) ∧ Cls K C ∧ NoAttr K C f ∧ fs.length < 1000 ∧
  D.nx σ (upd H2 a (.ins C dx (putF f y fs)))
section
variable {X : Cx} {o e value : Expr} {f : Str} {pos pos' tpos : Pos} {ta tv : TE}
theorem pe_fld (he : PE X e ta) (hb : attributeBase e f X.env (eval e X.env) = eval e X.env) : PE X (.Attribute e f pos) (tFld X.K ta f) := by
  intro pins s σ H Q I h
  refine attr_of hb (thn (he pins s σ H _ I h) fun u s1 ⟨x, H1, I1, rx, a, C, dx, fs, v, ex, ea, c, n, l, q⟩ => ?_)
  subst ex
  obtain rfl : u = Value.ref a := rx
  exact getattr_ok I1 ea c n l fun u' s2 I2 ru => ⟨v, H1, I2, ru, q⟩
theorem ps_fld (ha : PE X o ta) (hv : PE X value tv) (hs : swapsWith value (some (.Attribute o f pos')) pos.line X.env = pure false) : PS X (.Assign [.Attribute o f pos'] value pos) (sFld X.K ta tv f) := by
  intro pins s σ H D I h
  refine plainObj_wpAny_Assign_Attribute (thn (hv pins s σ H _ I h) fun u s1 ⟨y, H1, I1, ry, q⟩ => thn (ha pins s1 σ H1 _ I1 q) fun ov s2 ⟨x, H2, I2, rx, a, C, dx, fs, ex, ea, c, n, l, q2⟩ => ?_) hs
  subst ex
  obtain rfl : ov = Value.ref a := rx
  exact setattr_ok I2 ea c n l ry fun s3 I3 => ⟨σ, _, I3, q2⟩
end

/-! ### isinstance -/
section
variable {X : Cx} {pins : List (Addr × Obj)} {σ : St} {H : Hp} {s : Shared} {A : Around} {E : Value → Shared → Prop} {Q : Value → Shared → Prop} {c : Value} {b : Bool}
inductive TyOf (K : PySem.W.Frag) (H : Hp) : V → Value → Prop where
  | non : TyOf K H .non (.type "NoneType")
  | bl (x : Bool) : TyOf K H (.bl x) (.type "bool")
  | int (i : Int) : TyOf K H (.int i) (.type "int")
  | str (x : Str) : TyOf K H (.str x) (.type "str")
  | flt (x : UInt64) : TyOf K H (.flt x) (.type "float")
  | lst {a : Addr} {xs : List V} (e : H a = some (.lst xs)) : TyOf K H (.ref a) (.type "list")
  | frz {a : Addr} {o : Obj} {xs : List V} (e : H a = some (.frz o (.lst xs))) : TyOf K H (.ref a) (.type "list")
  | tup {a : Addr} {xs : List V} (e : H a = some (.tup xs)) : TyOf K H (.ref a) (.type "tuple")
  | dK {a : Addr} {kvs : List (Key × V)} (e : H a = some (.dK kvs)) : TyOf K H (.ref a) (.type "dict")
  | dT {a : Addr} {kvs : List (List Key × V)} (e : H a = some (.dT kvs)) : TyOf K H (.ref a) (.type "dict")
  | ins {a C dx : Addr} {fs : List (Str × V)} (e : H a = some (.ins C dx fs)) (cl : Cls K C) (ha : PySem.W.findIn K (.ref C) "__class__" = some (some (.builtin "object.__class__")))
      (hn : PySem.W.specialIn K (.builtin "object.__class__") "__get__" = some (some (.builtin "getset_descriptor.__get__"))) (htk : PySem.W.takesIn K (.builtin "object.__class__") = some true)
      (hm : PySem.W.mroIn K C (.type "object") = some true) : TyOf K H (.ref a) (.ref C)
theorem isinst_ok {x : V} {u t : Value} (I : Inv X pins σ H s) (rx : RelV x u) (ty : TyOf X.K H x t) (e : PySem.W.kitOne X.K t c = some b) (h : ∀ tk, Q (.bool b) { s with toks := tk }) :
    wpAny (model X.prog X.w) A (call (.builtin "isinstance") [u, c]) Q E s := by
  cases ty with
  | non => cases (show u = Value.none from rx); exact PySem.W.kia_one PySem.W.kitx_none I.kIn True.intro e (fun z => nomatch z) h
  | bl y => cases (show u = Value.bool y from rx); exact PySem.W.kia_one PySem.W.kitx_bool I.kIn True.intro e (fun z => nomatch z) h
  | int i => obtain ⟨t, q⟩ := (show ∃ t, u = Value.int i t from rx); cases q; exact PySem.W.kia_one PySem.W.kitx_int I.kIn True.intro e (fun z => nomatch z) h
  | str y => obtain ⟨t, q⟩ := (show ∃ t, u = Value.str y t from rx); cases q; exact PySem.W.kia_one PySem.W.kitx_str I.kIn True.intro e (fun z => nomatch z) h
  | flt y => obtain ⟨t, q⟩ := (show ∃ t, u = Value.float y t from rx); cases q; exact PySem.W.kia_one PySem.W.kitx_float I.kIn True.intro e (fun z => nomatch z) h
  | @lst a xs ea =>
    cases (show u = Value.ref a from rx)
    obtain ⟨_, _, n, _, h1⟩ := (show ObjOk X.prog X.w H s.heap a (.lst xs) from I.hok a _ ea)
    exact PySem.W.kia_one PySem.W.kitx_list I.kIn ⟨_, h1, rfl⟩ e (fun z => nomatch z) h
  | @frz a ob xs ea =>
    cases (show u = Value.ref a from rx)
    obtain ⟨_, _, _, n, _, h1⟩ := (show ObjOk X.prog X.w H s.heap a (.frz ob (.lst xs)) from I.hok a _ ea)
    exact PySem.W.kia_one PySem.W.kitx_list I.kIn ⟨_, h1, rfl⟩ e (fun z => nomatch z) h
  | @tup a xs ea =>
    cases (show u = Value.ref a from rx)
    obtain ⟨_, _, _, p⟩ := (show ObjOk X.prog X.w H s.heap a (.tup xs) from I.hok a _ ea)
    obtain ⟨o, h1, h2, _⟩ := p
    exact PySem.W.kia_one PySem.W.kitx_tuple I.kIn ⟨o, h1, h2⟩ e (fun z => nomatch z) h
  | @dK a kvs ea =>
    cases (show u = Value.ref a from rx)
    obtain ⟨_, _, vs, _, p⟩ := (show ObjOk X.prog X.w H s.heap a (.dK kvs) from I.hok a _ ea)
    obtain ⟨o, es, ep, h1, h2, _⟩ := p
    exact PySem.W.kia_one PySem.W.kitx_dict I.kIn ⟨o, h1, h2.1⟩ e (fun z => nomatch z) h
  | @dT a kvs ea =>
    cases (show u = Value.ref a from rx)
    obtain ⟨_, _, xs, _, o, es, ep, h1, h2, _⟩ := (show ObjOk X.prog X.w H s.heap a (.dT kvs) from I.hok a _ ea)
    exact PySem.W.kia_one PySem.W.kitx_dict I.kIn ⟨o, h1, h2.1⟩ e (fun z => nomatch z) h
  | @ins a C dx fs ea cl ha hn htk hm =>
    cases (show u = Value.ref a from rx)
    obtain ⟨mA, O, _⟩ := ins_get I.hok ea
    obtain ⟨od, J, _⟩ := O.look
    exact PySem.W.kia_one (PySem.W.kitx_own (cl.get _) cl.hd ha hn htk hm) I.kIn J e (fun z => nomatch z) h
end
end L2

namespace L2
open PySem PySem.Spec PyProof.Rows

/-! ### room -/
structure Room (k : Nat) (A : Around) : Prop where
  hd : A.handled = none
  dp : A.depth + 3 * k + 5 < recursionLimit
  un : A.units + 16 * k + 200 < cLine
theorem Room.mono {j k : Nat} {A : Around} (r : Room k A) (h : j ≤ k) : Room j A := ⟨r.hd, by have := r.dp; omega, by have := r.un; omega⟩
theorem Room.deeper {k : Nat} {A : Around} (r : Room (k + 1) A) (env : Env) : Room k (A.deeper env) :=
  ⟨r.hd, by have := r.dp; show A.depth + 1 + 3 * k + 5 < _; omega, by have := r.un; show A.units + 3 + 16 * k + 200 < _; omega⟩
theorem make_depth {A : Around} {C : Addr} {us : List Value} {kw : List (Str × Value)} : (A.under (.builtin "type.__call__" ⟨.ref C :: us, kw⟩)).depth = A.depth + 1 := by
  first | rfl | simp [Around.under, Code.weight, Code.isCreation, Code.isGuard, Code.isCaller, Code.frames, Code.isFrame, guardIds]
theorem make_units {A : Around} {C : Addr} {us : List Value} {kw : List (Str × Value)} : (A.under (.builtin "type.__call__" ⟨.ref C :: us, kw⟩)).units = A.units + 1 := by
  first | rfl | simp [Around.under, Code.cUnits, Code.frames, Code.isFrame]
theorem Room.make {k : Nat} {A : Around} (r : Room (k + 1) A) (C : Addr) (us : List Value) (kw : List (Str × Value)) : Room k (A.under (.builtin "type.__call__" ⟨.ref C :: us, kw⟩)) :=
  ⟨r.hd, by have := r.dp; rw [make_depth]; omega, by have := r.un; rw [make_units]; omega⟩
theorem Room.depth {k : Nat} {A : Around} (r : Room k A) : A.depth < recursionLimit := by have := r.dp; omega
theorem Room.units0 {k : Nat} {A : Around} (r : Room k A) : A.units < cLine := by have := r.un; omega

/-! ### argument lists and displays -/
noncomputable def tNil : TA := fun _ H Q => Q [] H
noncomputable def tCons (ta : TE) (tr : TA) : TA := fun σ H Q => ta σ H fun x H1 => tr σ H1 fun xs H2 => Q (x :: xs) H2
section
variable {X : Cx} {e : Expr} {es : List Expr} {te : TE} {t : TA} {pos : Pos}
theorem pa_nil : PA X [] tNil := fun _ _ _ _ H Q I h => Calls.spliced_nil ⟨[], H, I, .nil, h⟩
theorem pa_cons (ha : PE X e te) (hr : PA X es t) (hs : starEach (e :: es) X.env = (false, eval e X.env) :: starEach es X.env := by rfl) : PA X (e :: es) (tCons te t) := by
  intro pos pins s σ H Q I h
  rw [hs]
  show wpAny _ _ (spliced ((false, eval e X.env) :: backTo pos (starEach es X.env))) _ _ s
  refine Calls.spliced_cons (thn (ha pins s σ H _ I h) fun u s1 ⟨x, H1, I1, r1, q1⟩ => ?_)
  exact thn (hr pos pins s1 σ H1 _ I1 q1) fun us s2 ⟨xs, H2, I2, r2, q2⟩ => ⟨x :: xs, H2, I2, .cons r1 r2, q2⟩

noncomputable def tTup (t : TA) : TE := fun σ H Q => t σ H fun xs H1 => xs.length ≤ sizeLine ∧ ∀ p, H1 p = none → Q (.ref p) (upd H1 p (.tup xs))
noncomputable def tLst (t : TA) : TE := fun σ H Q => t σ H fun xs H1 => xs.length ≤ sizeLine ∧ ∀ p, H1 p = none → Q (.ref p) (upd H1 p (.lst xs))
theorem pe_tup {x1} (h : PA X es t) : PE X (.Tuple es x1 pos) (tTup t) := by
  intro pins s σ H Q I hq
  refine wpAny_Tuple_spliced (thn (h pos pins s σ H _ I hq) fun us s1 ⟨xs, H1, I1, r, z, q⟩ => ⟨by rw [← r.length]; exact z, ?_⟩)
  have hf : H1 s1.heap.objs.size = none := I1.hok.fresh (Nat.le_refl _)
  refine ⟨.ref s1.heap.objs.size, upd H1 s1.heap.objs.size (.tup xs), I1.laid (t' := s1.toks) (fun b u e => Heap.get?_push_of_some _ e) (Nat.le_refl _) ?_, rfl, q _ hf⟩
  exact ⟨z, us, r, ⟨_, Heap.get?_push_size _ rfl, rfl, _, rfl⟩⟩
theorem pe_lst (h : PA X es t) : PE X (.List es pos) (tLst t) := by
  intro pins s σ H Q I hq
  refine wpAny_List_spliced (thn (h pos pins s σ H _ I hq) fun us s1 ⟨xs, H1, I1, r, z, q⟩ => ⟨by rw [← r.length]; exact z, ?_⟩)
  have hf : H1 s1.heap.objs.size = none := I1.hok.fresh (Nat.le_refl _)
  refine ⟨.ref s1.heap.objs.size, upd H1 s1.heap.objs.size (.lst xs), I1.laid (t' := s1.toks) (fun b u e => Heap.get?_push_of_some _ e) (Nat.le_refl _) ?_, rfl, q _ hf⟩
  exact ⟨z, us, 0, r, Heap.get?_push_size _ rfl⟩
end

/-! ### what a def promises -/
noncomputable abbrev Sp := List V → Hp → VK → XK → Prop
noncomputable abbrev CXT := List Env → Hp → Shared → XK → Value → Shared → Prop

structure Env0 (P : Program) (w : World) (K : PySem.W.Frag) (mg : Str → Option Value) (base : Heap) (A : Around) (outer : List Env) (s : Shared) (H : Hp) : Prop where
  frames : A.frames = some outer
  mod : Mod K mg base
  bs : ∀ b o, base.get? b = some o → s.heap.get? b = some o ∧ H b = none
  bsz : base.objs.size ≤ s.heap.objs.size
  funs : s.heap.FunFrames base outer
  frf : ∀ b ∈ frs outer, H b = none
  hok : HOk P w H s.heap
  bare : AllBare s.gens
noncomputable def CE (outer : List Env) (P : Program) (w : World) (H : Hp) (s : Shared) (Q : VK) (u : Value) (s' : Shared) : Prop :=
  ∃ v H', s'.os = s.os ∧ AllBare s'.gens ∧ Un (frs outer) [] H H' s.heap s'.heap ∧ HOk P w H' s'.heap ∧ RelV v u ∧ Q v H'
noncomputable def CR (CX : CXT) (outer : List Env) (P : Program) (w : World) (H : Hp) (s : Shared) (Q : VK) (E : XK) (r : Result) (s' : Shared) : Prop :=
  match r with
  | .ok (.ret u) => CE outer P w H s Q u s'
  | .ok _ => False
  | .error e => CX outer H s E e s'
structure FnOk (P : Program) (w : World) (K : PySem.W.Frag) (mg : Str → Option Value) (base : Heap) (CX : CXT) (k : Nat) (f : Addr) (fd : FuncData) (ps : List Str) (sp : Sp) : Prop where
  len : ∀ vs H Q E, sp vs H Q E → vs.length = ps.length
  run : ∀ (A : Around) (outer : List Env) (s : Shared) (H : Hp) (args : Args) (us : List Value) (vs : List V) (Q : VK) (E : XK), Room k A → Env0 P w K mg base A outer s H → BindsTo s fd args (ps.zip us) → Vals vs us → sp vs H Q E →
    codeAny (model P w) A (.call (.ref f) args) (CR CX outer P w H s Q E) s
theorem Env0.make {P : Program} {w : World} {K : PySem.W.Frag} {mg : Str → Option Value} {base : Heap} {A : Around} {outer : List Env} {s : Shared} {H : Hp} (e : Env0 P w K mg base A outer s H) (C : Addr) (us : List Value) (kw : List (Str × Value)) :
    Env0 P w K mg base (A.under (.builtin "type.__call__" ⟨.ref C :: us, kw⟩)) outer s H := ⟨by first | exact e.frames | (simpa [Around.under, Code.envs, Code.isFrame, pushEnvs] using e.frames), e.mod, e.bs, e.bsz, e.funs, e.frf, e.hok, e.bare⟩
section
variable {X : Cx} {pins : List (Addr × Obj)} {σ : St} {H : Hp} {s s' : Shared}
theorem Inv.env0 (I : Inv X pins σ H s) : Env0 X.prog X.w X.K X.mg X.base X.A X.stack s H :=
  ⟨I.ok.frames, I.ok.mod, I.bs, Nat.le_trans I.ok.bsz I.sz, I.stack, I.stkFree, I.hok, I.bare⟩
theorem Inv.after {Q : VK} {u : Value} (I : Inv X pins σ H s) (h : CE X.stack X.prog X.w H s Q u s') : EP X pins σ Q u s' := by
  obtain ⟨v, H', os, bare, un, hok, r, q⟩ := h
  obtain ⟨hh, g, d, t, os'⟩ := s'
  obtain rfl : os' = s.os := os
  exact ⟨v, H', I.call (h' := hh) (g' := g) (d' := d) (t' := t) (ch := []) un hok bare (fun b z => absurd z (by simp)), r, q⟩
end

/-! ### calls -/
noncomputable def tCall (sp : Sp) (dvs : List V) (E : XK) (t : TA) : TE := fun σ H Q => t σ H fun vs H1 => sp (vs ++ dvs) H1 Q E
noncomputable def tMake (C : Addr) (sp : Sp) (dvs : List V) (E : XK) (t : TA) : TE := fun σ H Q => t σ H fun vs H1 => ∀ x dx, H1 x = none → H1 dx = none → dx ≠ x →
  sp (.ref x :: (vs ++ dvs)) (upd (upd H1 dx (.own x)) x (.ins C dx [])) (fun v H2 => v = .non ∧ Q (.ref x) H2) E

noncomputable def Binds (K : PySem.W.Frag) (fd : FuncData) (ps : List Str) (ds : List Value) : Prop :=
  ∀ (s : Shared) (us : List Value), K.In s.heap → (us ++ ds).length = ps.length → BindsTo s fd ⟨us, []⟩ (ps.zip (us ++ ds))
theorem Binds.all {K : PySem.W.Frag} {fd : FuncData} {ps : List Str} (h : ∀ us : List Value, us.length = ps.length → bindArgs fd ⟨us, []⟩ = pure (ps.zip us)) : Binds K fd ps [] := fun s us _ hl => by
  rw [List.append_nil] at hl ⊢
  exact .of_eq (h us hl)

noncomputable def Passes (CX : CXT) (X : Cx) (E : XK) : Prop := ∀ (pins : List (Addr × Obj)) (σ : St) (H : Hp) (s : Shared) (e : Value) (s' : Shared), Inv X pins σ H s → CX X.stack H s E e s' → X.xe e s'

section
variable {X : Cx} {CX : CXT} {k : Nat} {f C : Addr} {fd : FuncData} {ps : List Str} {sp : Sp} {dvs : List V} {ds : List Value} {E : XK} {x m : Str} {p pos apos : Pos} {e o : Expr} {es : List Expr} {ta : TE} {t : TA}

theorem run_fn {pins : List (Addr × Obj)} {σ : St} {H : Hp} {s : Shared} {Q : VK} {us : List Value} {vs : List V} (F : FnOk X.prog X.w X.K X.mg X.base CX k f fd ps sp) (hr : Room k X.A) (hb : Binds X.K fd ps ds) (hd : Vals dvs ds) (hx : Passes CX X E)
    (I : Inv X pins σ H s) (r : Vals vs us) (h : sp (vs ++ dvs) H Q E) : wpAny (model X.prog X.w) X.A (call (.ref f) us) (EP X pins σ Q) X.xe s := by
  have r2 : Vals (vs ++ dvs) (us ++ ds) := r.append hd
  have hl : (us ++ ds).length = ps.length := by rw [← r2.length]; exact F.len _ _ _ _ h
  refine wpAny_call (codeAny_mono (F.run X.A X.stack s H ⟨us, []⟩ (us ++ ds) (vs ++ dvs) Q E hr I.env0 (hb s us I.kIn hl) r2 h) fun r s' hq => ?_)
  cases r with
  | error e => exact hx pins σ H s e s' I hq
  | ok fl =>
    cases fl with
    | ret u => exact I.after hq
    | next => exact False.elim hq
    | brk => exact False.elim hq
    | cont => exact False.elim hq

theorem pe_call (F : FnOk X.prog X.w X.K X.mg X.base CX k f fd ps sp) (hr : Room k X.A) (hg : Gl X x) (hm : X.mg x = some (.ref f)) (hk : PySem.W.keepIn X.K (.ref f) = true) (hb : Binds X.K fd ps ds) (hd : Vals dvs ds) (hx : Passes CX X E)
    (ha : PA X (e :: es) t) (hdb : (x == ("__debug__" : Str)) = false := by decide) (he : starEach (e :: es) X.env = (false, eval e X.env) :: starEach es X.env := by rfl) (hpl : (backTo pos (starEach es X.env)).any (·.1) = false := by rfl) :
    PE X (.Call (.Name x p) (e :: es) [] pos) (tCall sp dvs E t) := by
  intro pins s σ H Q I h
  refine wpAny_Call_Name_kw (ld_glob I hg hm ?_ hdb)
  refine PySem.W.callWith_K (h₀ := X.base) I.ok.mod.kin hk (thn (ha pos pins s σ H _ I h) fun us s1 ⟨vs, H1, I1, r, q⟩ => ⟨I1.kIn, ?_⟩) he hpl
  exact run_fn F hr hb hd hx I1 r q
theorem pe_call0 (F : FnOk X.prog X.w X.K X.mg X.base CX k f fd ps sp) (hr : Room k X.A) (hg : Gl X x) (hm : X.mg x = some (.ref f)) (hk : PySem.W.keepIn X.K (.ref f) = true) (hb : Binds X.K fd ps ds) (hd : Vals dvs ds) (hx : Passes CX X E)
    (hdb : (x == ("__debug__" : Str)) = false := by decide) : PE X (.Call (.Name x p) [] [] pos) (tCall sp dvs E tNil) := by
  intro pins s σ H Q I h
  refine wpAny_Call_Name_kw (ld_glob I hg hm ?_ hdb)
  exact PySem.W.callWith_K0 I.kIn hk (run_fn (us := []) F hr hb hd hx I .nil h)

structure Mk (K : PySem.W.Frag) (C f : Addr) : Prop where
  makes : PySem.W.makesIn K C = true
  init : PySem.W.findIn K (.ref C) "__init__" = some (some (.ref f))
  fn : PySem.W.isFn K (.ref f) = true
  kp : PySem.W.keepIn K (.ref C) = true

theorem run_make {pins : List (Addr × Obj)} {σ : St} {H : Hp} {s : Shared} {Q : VK} {us : List Value} {vs : List V} (M : Mk X.K C f) (F : FnOk X.prog X.w X.K X.mg X.base CX k f fd ps sp) (hr : Room (k + 1) X.A) (hb : Binds X.K fd ps ds) (hd : Vals dvs ds)
    (hx : Passes CX X E) (I : Inv X pins σ H s) (r : Vals vs us)
    (h : ∀ x dx, H x = none → H dx = none → dx ≠ x → sp (.ref x :: (vs ++ dvs)) (upd (upd H dx (.own x)) x (.ins C dx [])) (fun v H2 => v = .non ∧ Q (.ref x) H2) E) :
    wpAny (model X.prog X.w) X.A (call (.ref C) us) (EP X pins σ Q) X.xe s := by
  have hq := h (s.heap.objs.size + 1) s.heap.objs.size (I.hok.fresh (Nat.le_succ _)) (I.hok.fresh (Nat.le_refl _)) (Nat.ne_of_lt (Nat.lt_succ_self _))
  have I2 := Inv.made (C := C) I
  have r2 : Vals (V.ref (s.heap.objs.size + 1) :: (vs ++ dvs)) (Value.ref (s.heap.objs.size + 1) :: (us ++ ds)) := .cons rfl (r.append hd)
  have hl : (Value.ref (s.heap.objs.size + 1) :: us ++ ds).length = ps.length := by
    have e := r2.length
    rw [F.len _ _ _ _ hq] at e
    exact e.symm
  refine wpAny_call (make_map (f := f) I.kIn M.makes M.init (beq_iff_eq.mp M.fn) (codeAny_mono (F.run _ X.stack _ _ ⟨Value.ref (s.heap.objs.size + 1) :: us, []⟩ (Value.ref (s.heap.objs.size + 1) :: (us ++ ds)) _ _ E (hr.make C us [])
    (I2.env0.make C us []) (hb _ (Value.ref (s.heap.objs.size + 1) :: us) I2.kIn hl) r2 hq) fun r s' hq' => ?_))
  cases r with
  | error e => exact hx pins σ _ _ e s' I2 hq'
  | ok fl =>
    cases fl with
    | ret u =>
      obtain ⟨v, H', I3, rv, ev, q3⟩ := I2.after hq'
      subst ev
      exact ⟨rv, ⟨V.ref (s.heap.objs.size + 1), H', I3, rfl, q3⟩⟩
    | next => exact False.elim hq'
    | brk => exact False.elim hq'
    | cont => exact False.elim hq'
theorem pe_make (M : Mk X.K C f) (F : FnOk X.prog X.w X.K X.mg X.base CX k f fd ps sp) (hr : Room (k + 1) X.A) (hg : Gl X x) (hm : X.mg x = some (.ref C)) (hb : Binds X.K fd ps ds) (hd : Vals dvs ds) (hx : Passes CX X E)
    (ha : PA X (e :: es) t) (hdb : (x == ("__debug__" : Str)) = false := by decide) (he : starEach (e :: es) X.env = (false, eval e X.env) :: starEach es X.env := by rfl) (hpl : (backTo pos (starEach es X.env)).any (·.1) = false := by rfl) :
    PE X (.Call (.Name x p) (e :: es) [] pos) (tMake C sp dvs E t) := by
  intro pins s σ H Q I h
  refine wpAny_Call_Name_kw (ld_glob I hg hm ?_ hdb)
  refine PySem.W.callWith_K (h₀ := X.base) I.ok.mod.kin M.kp (thn (ha pos pins s σ H _ I h) fun us s1 ⟨vs, H1, I1, r, q⟩ => ⟨I1.kIn, ?_⟩) he hpl
  exact run_make M F hr hb hd hx I1 r q
end

/-! ### keywords -/
section
variable {X : Cx} {CX : CXT} {k : Nat} {f C : Addr} {fd : FuncData} {ps ks : List Str} {sp : Sp} {E : XK} {x m : Str} {p pos apos kpos : Pos} {e o : Expr} {es : List Expr} {kws : List Keyword} {te ta : TE} {t tk : TA} {nm : Option Str}
structure KBinds (K : PySem.W.Frag) (fd : FuncData) (ps ks : List Str) (g : List Value → List Value → List Value) (gV : List V → List V → List V) : Prop where
  to : ∀ (s : Shared) (us ws : List Value), K.In s.heap → (g us ws).length = ps.length → BindsTo s fd ⟨us, ks.zip ws⟩ (ps.zip (g us ws))
  rel : ∀ {vs : List V} {us : List Value} {zs : List V} {ws : List Value}, Vals vs us → Vals zs ws → Vals (gV vs zs) (g us ws)
variable {g : List Value → List Value → List Value} {gV : List V → List V → List V}
end

/-! ### a def's body keeps its promise -/
structure FnScope (N P : List Str) (sc : Scope) : Prop where
  kind : sc.kind = .function
  co : sc.isCoroutine = false
  gen : sc.isGenerator = false
  nd : N.Nodup
  pre : N.take P.length = P
  par : ∀ x ∈ P, sc.names.lookup x = some .local ∨ sc.names.lookup x = some .cell
  nofree : ∀ y ∈ sc.names, y.2 ≠ .free

theorem bindL_out {kindOf : Str → Option NameKind} {x : Str} : ∀ {binds : List (Str × Value)} {m : Str → Option Value}, (∀ v, (x, v) ∉ binds) → bindL kindOf binds m x = m x
  | [], _, _ => rfl
  | (n, v) :: r, m, h => by
    unfold bindL
    rw [bindL_out fun w hw => h w (List.mem_cons_of_mem _ hw)]
    split
    · have : x ≠ n := by rintro rfl; exact h v List.mem_cons_self
      simp [this]
    · rfl
theorem bindC_out {kindOf : Str → Option NameKind} {x : Str} : ∀ {binds : List (Str × Value)} {m : Str → Option Value}, (∀ v, (x, v) ∉ binds) → bindC kindOf binds m x = m x
  | [], _, _ => rfl
  | (n, v) :: r, m, h => by
    unfold bindC
    rw [bindC_out fun w hw => h w (List.mem_cons_of_mem _ hw)]
    split
    · rfl
    · have : x ≠ n := by rintro rfl; exact h v List.mem_cons_self
      simp [this]
theorem bindL_get {kindOf : Str → Option NameKind} {x : Str} {v : Value} : ∀ {P : List Str} {vs : List Value} {i : Nat} {m : Str → Option Value}, P.Nodup → P[i]? = some x → vs[i]? = some v → kindOf x = some .local →
    bindL kindOf (P.zip vs) m x = some v
  | [], _, _, _, _, h, _, _ => by simp at h
  | _ :: _, [], _, _, _, _, h, _ => by simp at h
  | p :: P, w :: vs, 0, m, nd, h1, h2, hk => by
    simp at h1 h2; subst h1; subst h2
    show bindL kindOf ((p, w) :: P.zip vs) m p = _
    unfold bindL
    rw [bindL_out fun v hv => (List.nodup_cons.mp nd).1 (List.of_mem_zip hv).1, if_pos hk]
    simp
  | p :: P, w :: vs, i + 1, m, nd, h1, h2, hk => by
    show bindL kindOf ((p, w) :: P.zip vs) m x = _
    unfold bindL
    exact bindL_get (i := i) (List.nodup_cons.mp nd).2 (by simpa using h1) (by simpa using h2) hk
theorem bindC_get {kindOf : Str → Option NameKind} {x : Str} {v : Value} : ∀ {P : List Str} {vs : List Value} {i : Nat} {m : Str → Option Value}, P.Nodup → P[i]? = some x → vs[i]? = some v → kindOf x ≠ some .local →
    bindC kindOf (P.zip vs) m x = some v
  | [], _, _, _, _, h, _, _ => by simp at h
  | _ :: _, [], _, _, _, _, h, _ => by simp at h
  | p :: P, w :: vs, 0, m, nd, h1, h2, hk => by
    simp at h1 h2; subst h1; subst h2
    show bindC kindOf ((p, w) :: P.zip vs) m p = _
    unfold bindC
    rw [bindC_out fun v hv => (List.nodup_cons.mp nd).1 (List.of_mem_zip hv).1, if_neg hk]
    simp
  | p :: P, w :: vs, i + 1, m, nd, h1, h2, hk => by
    show bindC kindOf ((p, w) :: P.zip vs) m x = _
    unfold bindC
    exact bindC_get (i := i) (List.nodup_cons.mp nd).2 (by simpa using h1) (by simpa using h2) hk

noncomputable def start (N : List Str) (vs : List V) : St := vs.map some ++ List.replicate (N.length - vs.length) none

noncomputable def cxOf (CX : CXT) (P : Program) (w : World) (K : PySem.W.Frag) (mg : Str → Option Value) (base : Heap) (N : List Str) (qual : Str) (scope : Scope) (f : Addr) (cd : Value) (A : Around) (outer : List Env) (s : Shared) (H : Hp) (E : XK) : Cx where
  prog := P
  w := w
  K := K
  mg := mg
  base := base
  A := A.deeper (envOfC qual scope s.heap.objs.size f cd)
  N := N
  s₀ := s
  H₀ := H
  env := envOfC qual scope s.heap.objs.size f cd
  outer := outer
  stack := envOfC qual scope s.heap.objs.size f cd :: outer
  ex := []
  calm := true
  fn := fun _ => true
  pn := []
  xe := fun e s' => wpAny (model P w) (A.deeper (envOfC qual scope s.heap.objs.size f cd)) (leaving (envOfC qual scope s.heap.objs.size f cd) e) (fun _ s'' => CX outer H s E e s'') (fun e' s'' => CX outer H s E e' s'') s'

theorem cell_has {sc : Scope} {n : Nat} {x : Str} (h : sc.names.lookup x = some .cell) : ∃ c, (cellsFrom n sc.names []).lookup x = some c := by
  have q := PySem.W.cellsFrom_some sc.names n [] (.inl h)
  exact Option.isSome_iff_exists.mp q

theorem inv_start {CX : CXT} {P : Program} {w : World} {K : PySem.W.Frag} {mg : Str → Option Value} {base : Heap} {N ps : List Str} {qual : Str} {scope : Scope} {f : Addr} {cd : Value} {A : Around} {outer : List Env} {s s1 : Shared} {H : Hp} {E : XK} {us : List Value} {vs : List V}
    (S : FnScope N ps scope) (hd : A.handled = none) (e0 : Env0 P w K mg base A outer s H) (hl : vs.length = ps.length) (r : Vals vs us)
    (x : InCallC s s.heap.objs.size (bindL (envOfC qual scope s.heap.objs.size f cd).kindOf (ps.zip us) fun _ => none) (cellsFrom (s.heap.objs.size + 1) scope.names []) (bindC (envOfC qual scope s.heap.objs.size f cd).kindOf (ps.zip us) fun _ => none) s1) :
    Inv (cxOf CX P w K mg base N qual scope f cd A outer s H E) [] (start N vs) H s1 := by
  have hpl : ps.length ≤ N.length := by have := congrArg List.length S.pre; rw [List.length_take] at this; omega
  obtain ⟨h1, tk, rfl, hk⟩ := x.done
  have noA : ∀ b : Addr, b ∉ (cxOf CX P w K mg base N qual scope f cd A outer s H E).ex := fun b z => absurd (show b ∈ ([] : List Addr) from z) (by simp)
  refine ⟨⟨e0.mod, S.kind, rfl, rfl, Nat.le_refl _, fun y z c h1 h2 => ?_, fun y hy => ?_, fun y c _ h => ?_, fun _ => hd, Around.frames_deeper e0.frames, .inr ⟨rfl, rfl⟩, fun b z => absurd z (noA b), e0.bs, e0.bsz, fun b _ _ => noA b, fun b z => absurd z (noA b), e0.funs, e0.frf⟩,
    rfl, e0.bare, Un.kept hk, ⟨_, x.toInCall.ns, fun i y v h1 h2 h3 => ?_⟩, fun y c h => ⟨_, x.cell y c h⟩, e0.hok.fresh (Nat.le_refl _), fun y c h => ?_, fun p hp => absurd (show p ∈ ([] : List (Addr × Obj)) from hp) (by simp), e0.hok.kept hk, ?_⟩
  · exact name_of_addr x.apart (PySem.mem_of_lookup h1) (PySem.mem_of_lookup h2)
  · have hy : scope.names.lookup y = some .cell ∨ scope.names.lookup y = some .free := hy
    rcases hy with hy | hy
    · exact cell_has hy
    · exact absurd rfl (S.nofree _ (PySem.mem_of_lookup hy))
  · exact Nat.le_of_lt (x.above y c (PySem.mem_of_lookup h))
  · have hi : i < vs.length := by
      unfold start at h2
      by_cases hi : i < vs.length
      · exact hi
      · rw [List.getElem?_append_right (by simpa using hi)] at h2
        rw [List.getElem?_replicate] at h2
        split at h2 <;> cases h2
    have ha : vs[i]? = some v := by
      unfold start at h2
      rw [List.getElem?_append_left (by simpa using hi), List.getElem?_map] at h2
      cases e : vs[i]? with
      | none => rw [e] at h2; cases h2
      | some a => rw [e] at h2; cases h2; rfl
    obtain ⟨u, hu, rv⟩ := r.get ha
    have hp : ps[i]? = some y := by
      rw [← S.pre, List.getElem?_take_of_lt (by omega)]; exact h1
    have ndP : ps.Nodup := by rw [← S.pre]; exact S.nd.sublist (List.take_sublist _ _)
    refine ⟨u, rv, ?_⟩
    rcases S.par y (List.mem_of_getElem? hp) with k | k
    · exact .inl ⟨k, bindL_get ndP hp hu k⟩
    · obtain ⟨c, e⟩ := cell_has (n := s.heap.objs.size + 1) k
      refine .inr ⟨.inl k, c, e, ?_⟩
      have q := x.cell y c e
      rw [bindC_get ndP hp hu (by show scope.names.lookup y ≠ _; rw [k]; decide)] at q
      exact q
  · exact e0.hok.fresh (Nat.le_of_lt (x.above y c (PySem.mem_of_lookup h)))
  · unfold start
    show _ = N.length
    rw [List.length_append, List.length_map, List.length_replicate]
    omega

theorem fn_of {CX : CXT} {P : Program} {w : World} {K : PySem.W.Frag} {mg : Str → Option Value} {base : Heap} {k : Nat} {f : Addr} {name qual : Str} {params : Arguments} {body : List Stmt} {scope : Scope} {dV kV doc pm cdv ct oc : Value} {an od : Option Addr}
    {osl : Array (Option Value)} {N ps : List Str} {sp : Sp} (lk : K.lookup f = some ⟨oc, od, .func (PySem.W.fnOf name qual params body scope dV kV doc pm an cdv ct), osl⟩) (hcd : PySem.W.codeIn K cdv qual = true) (S : FnScope N ps scope)
    (len : ∀ vs H Q E, sp vs H Q E → vs.length = ps.length)
    (hbody : ∀ (A : Around) (outer : List Env) (s : Shared) (H : Hp) (vs : List V) (Q : VK) (E : XK), Room k (A.deeper (envOfC qual scope s.heap.objs.size f cdv)) → sp vs H Q E →
      ∃ t, PSs (cxOf CX P w K mg base N qual scope f cdv A outer s H E) body t ∧ t { nx := fun _ H' => Q .non H', rt := Q } (start N vs) H) :
    FnOk P w K mg base CX (k + 1) f (PySem.W.fnOf name qual params body scope dV kV doc pm an cdv ct) ps sp := by
  refine ⟨len, fun A outer s H args us vs Q E hr e0 hb r hsp => ?_⟩
  have hl := len _ _ _ _ hsp
  have KX : K.In s.heap := e0.mod.kin.keeps fun b o e => (e0.bs b o e).1
  have lim : s.heap.NoLimit := e0.mod.nolimit.keeps fun b o e => (e0.bs b o e).1
  have hkind : ∀ y ∈ ps.zip us, scope.names.lookup y.1 = some .local ∨ (scope.names.lookup y.1 = some .cell ∧ ((cellsFrom (s.heap.objs.size + 1) scope.names []).lookup y.1).isSome = true) := fun ⟨n, v⟩ hy => by
    rcases S.par n (List.of_mem_zip hy).1 with q | q
    · exact .inl q
    · exact .inr ⟨q, PySem.W.cellsFrom_some _ _ _ (.inl q)⟩
  refine codeAny_call_function hr.depth (KX _ _ lk) rfl S.co S.gen rfl (PySem.W.codeRec_of KX hcd) (hb _ _ _ _ ?_)
  refine wpAny_newFunctionEnv_cells S.kind hkind fun env he s1 x => ?_
  subst he
  refine ⟨lim.keeps x.toInCall.keep, codeAny_func ?_⟩
  obtain ⟨t, ht, hq⟩ := hbody A outer s H vs Q E (hr.deeper _) hsp
  have I : Inv (cxOf CX P w K mg base N qual scope f cdv A outer s H E) [] (start N vs) H s1 := inv_start S hr.hd e0 hl r x
  refine wpAny_mono (ht [] s1 (start N vs) H _ I hq) (fun fl s' hs => ?_) fun e s' hs => hs
  have fin : ∀ {σ' : St} {H' : Hp} {v : V} {u : Value}, Inv (cxOf CX P w K mg base N qual scope f cdv A outer s H E) [] σ' H' s' → RelV v u → Q v H' → CE outer P w H s Q u s' :=
    fun {σ' H' v u} J rv q => ⟨v, H', J.os, J.bare, J.base, J.hok, rv, q⟩
  cases fl with
  | ret u =>
    obtain ⟨v, σ', H', J, rv, q⟩ := hs
    exact fin J rv q
  | next =>
    obtain ⟨σ', H', J, q⟩ := hs
    exact fin (v := V.non) (u := Value.none) J rfl q
  | brk =>
    obtain ⟨_, _, _, q⟩ := hs
    exact False.elim q
  | cont =>
    obtain ⟨_, _, _, q⟩ := hs
    exact False.elim q
end L2

namespace L2
open PySem PySem.Spec PyProof.Rows
section
variable {X : Cx} {x : Str} {p pos : Pos} {e : Expr} {es : List Expr} {t : TA} {id T : String} {r : List V → Hp → VK → Prop}

noncomputable def tCB (r : List V → Hp → VK → Prop) (t : TA) : TE := fun σ H Q => t σ H fun vs H1 => r vs H1 Q
theorem pe_callB (hc : CallR X (.builtin id) r) (hg : Gl X x) (hm : X.mg x = none) (hv : bootBuiltins x = some (.builtin id)) (ha : PA X (e :: es) t) (hn : x ≠ "__name__" := by decide) (hdb : (x == ("__debug__" : Str)) = false := by decide)
    (he : starEach (e :: es) X.env = (false, eval e X.env) :: starEach es X.env := by rfl) (hpl : (backTo pos (starEach es X.env)).any (·.1) = false := by rfl) : PE X (.Call (.Name x p) (e :: es) [] pos) (tCB r t) := by
  intro pins s σ H Q I h
  refine wpAny_Call_Name_kw (ld_blt I hg hm hv ?_ hn hdb)
  exact PyProof.Rows.callWith_builtin1 (thn (ha pos pins s σ H _ I h) fun us s1 ⟨vs, H1, I1, r1, q1⟩ => hc pins s1 σ H1 vs us Q I1 r1 q1) he hpl
theorem pe_callTy (hc : CallR X (.type T) r) (hg : Gl X x) (hm : X.mg x = none) (hv : bootBuiltins x = some (.type T)) (ha : PA X (e :: es) t) (hn : x ≠ "__name__" := by decide) (hdb : (x == ("__debug__" : Str)) = false := by decide)
    (he : starEach (e :: es) X.env = (false, eval e X.env) :: starEach es X.env := by rfl) (hpl : (backTo pos (starEach es X.env)).any (·.1) = false := by rfl) : PE X (.Call (.Name x p) (e :: es) [] pos) (tCB r t) := by
  intro pins s σ H Q I h
  refine wpAny_Call_Name_kw (ld_blt I hg hm hv ?_ hn hdb)
  exact PyProof.Rows.callWith_type1 (thn (ha pos pins s σ H _ I h) fun us s1 ⟨vs, H1, I1, r1, q1⟩ => hc pins s1 σ H1 vs us Q I1 r1 q1) he hpl
end
end L2

namespace HT
open PySem PyProof.Rows

section
open PySem.SeqAt
open PySem.AutoSeq1 (wpAny_loadPart')
open PySem.MeetsSeq PySem.MeetsSeq2 PySem.MeetsSeq3

end

section
variable {prog : Program} {w : World} {A : Around} {E : Value → Shared → Prop} {s : Shared}

/-! ### t[a:b], not the whole -/
noncomputable def sIx (n d : Nat) : Option Int → Nat
  | none => d
  | some v => if v < 0 then (v + (n : Int)).toNat else min v.toNat n
theorem sIx_none (n d : Nat) : sIx n d none = d := rfl
theorem sIx_nat (n d k : Nat) : sIx n d (some (k : Int)) = min k n := by
  show (if (k : Int) < 0 then ((k : Int) + (n : Int)).toNat else min (k : Int).toNat n) = min k n
  rw [if_neg (by omega), Int.toNat_natCast]
end
end HT

namespace L2
open PySem PySem.Spec PyProof.Rows

/-! ### the parts of a slice -/
noncomputable abbrev TO := St → Hp → (Option Int → Hp → Prop) → Prop
noncomputable def PO (X : Cx) (e : Option Expr) (t : TO) : Prop :=
  ∀ (pins : List (Addr × Obj)) (s : Shared) (σ : St) (H : Hp) (Q : Option Int → Hp → Prop), Inv X pins σ H s → t σ H Q →
    wpAny (model X.prog X.w) X.A (evalPart e X.env) (fun u s' => ∃ o H', Inv X pins σ H' s' ∧ IsPart u o ∧ Q o H') X.xe s
noncomputable def tNoPart : TO := fun _ H Q => Q none H
noncomputable def tPart (t : TE) : TO := fun σ H Q => t σ H fun x H1 => ∃ i, x = .int i ∧ Q (some i) H1

theorem intsAre_of {ns : List Int} : ∀ {us : List Value}, Vals (ns.map V.int) us → IntsAre us ns := by
  induction ns with
  | nil => intro us r; rw [List.map_nil] at r; cases r; exact .nil
  | cons n ns ih =>
    intro us r
    rw [List.map_cons] at r
    cases r with
    | cons r1 r2 =>
      obtain ⟨t, e⟩ := r1
      subst e
      exact .cons n t (ih r2)

section
variable {X : Cx} {e : Expr} {te : TE} {lo hi : Option Expr} {tl th : TO} {pos p2 : Pos}

theorem po_none : PO X none tNoPart := by
  intro pins s σ H Q I h
  rw [evalPart_none]
  exact wpAny_pure ⟨none, H, I, .none, h⟩
theorem po_some (h : PE X e te) : PO X (some e) (tPart te) := by
  intro pins s σ H Q I hw
  rw [evalPart_some]
  refine thn (h pins s σ H _ I hw) fun u s1 ⟨x, H1, I1, r1, q1⟩ => ?_
  obtain ⟨i, rfl, q⟩ := q1
  obtain ⟨t, rfl⟩ := r1
  exact ⟨some i, H1, I1, .int i t, q⟩

noncomputable def SlR (X : Cx) (r : V → Option Int → Option Int → Hp → VK → Prop) : Prop :=
  ∀ (pins : List (Addr × Obj)) (s : Shared) (σ : St) (H : Hp) (x : V) (v vl vu : Value) (lo hi : Option Int) (sl : Addr) (Q : VK), Inv X pins σ H s → RelV x v → s.heap.IsSliceOf sl vl vu .none → IsPart vl lo → IsPart vu hi → r x lo hi H Q →
    ∃ T id, typeLookup (.type T) "__getitem__" = pure (some (.builtin id)) ∧ s.TypeIs v T ∧ wpAny (model X.prog X.w) X.A (getItem v (.ref sl)) (EP X pins σ Q) X.xe s
noncomputable def tSl (r : V → Option Int → Option Int → Hp → VK → Prop) (te : TE) (tl th : TO) : TE := fun σ H Q => te σ H fun x H1 => tl σ H1 fun l H2 => th σ H2 fun u H3 => r x l u H3 Q
theorem pe_slice {r : V → Option Int → Option Int → Hp → VK → Prop} (hr : SlR X r) (he : PE X e te) (hl : PO X lo tl) (hu : PO X hi th) : PE X (.Subscript e (.Slice lo hi none p2) pos) (tSl r te tl th) := by
  intro pins s σ H Q I h
  refine Subscript_ (thn (he pins s σ H _ I h) fun v s1 ⟨x, H1, I1, r1, q1⟩ => ?_)
  refine wpAny_Slice (thn (hl pins s1 σ H1 _ I1 q1) fun vl s2 ⟨l, H2, I2, pl, q2⟩ => thn (hu pins s2 σ H2 _ I2 q2) fun vu s3 ⟨u, H3, I3, pu, q3⟩ => ?_)
  rw [evalPart_none]
  refine wpAny_pure ?_
  have I4 : Inv X pins σ H3 { s3 with heap := s3.heap.push { cls := .type "slice", data := .fields #[vl, vu, .none] } } := I3.kept (t' := s3.toks) fun b ob q => Heap.get?_push_of_some _ q
  obtain ⟨T, id, hT, ht, hg⟩ := hr pins { s3 with heap := s3.heap.push { cls := .type "slice", data := .fields #[vl, vu, .none] } } σ H3 x v vl vu l u s3.heap.objs.size Q I4 r1 (Heap.IsSliceOf.new ..) pl pu q3
  show wpAny (model X.prog X.w) X.A (subscriptTail e (.Slice lo hi none p2) v (.ref s3.heap.objs.size)) (EP X pins σ Q) X.xe { s3 with heap := s3.heap.push { cls := .type "slice", data := .fields #[vl, vu, .none] } }
  exact tail_any (ops := [.ref s3.heap.objs.size, v]) ht hT hg (by with_unfolding_all rfl)

noncomputable def cutV (xs : List V) (lo hi : Option Int) : List V := (xs.drop (HT.sIx xs.length 0 lo)).take (HT.sIx xs.length xs.length hi - HT.sIx xs.length 0 lo)
theorem cutV_length (xs : List V) (lo hi : Option Int) : (cutV xs lo hi).length ≤ xs.length := by
  unfold cutV
  rw [List.length_take, List.length_drop]
  omega
/-! ### t < u, t + u -/
end
end L2

namespace L2
open PySem PySem.Spec PyProof.Rows

/-! ### places -/
noncomputable def ixN (n : Nat) (i : Int) : Option Nat := if 0 ≤ i then (if i < n then some i.toNat else none) else if -(n : Int) ≤ i then some (i + n).toNat else none
noncomputable def atI {α : Type} (xs : List α) (i : Int) : Option α := (ixN xs.length i).bind fun j => xs[j]?
theorem ixN_seq {n : Nat} {i : Int} {j : Nat} (h : ixN n i = some j) : seqIndex? i n = some j ∧ j < n ∧ -(n : Int) ≤ i ∧ i < n := by
  unfold ixN at h
  by_cases h0 : 0 ≤ i
  · rw [if_pos h0] at h
    by_cases h1 : i < n
    · rw [if_pos h1] at h
      have e : i.toNat = j := Option.some.inj h
      exact ⟨by rw [seqIndex_of h0 h1, e], by omega, by omega, h1⟩
    · rw [if_neg h1] at h; cases h
  · rw [if_neg h0] at h
    by_cases h1 : -(n : Int) ≤ i
    · rw [if_pos h1] at h
      have e : (i + n).toNat = j := Option.some.inj h
      exact ⟨by rw [seqIndex_neg (by omega) h1, e], by omega, h1, by omega⟩
    · rw [if_neg h1] at h; cases h
theorem atI_get {α : Type} {xs : List α} {i : Int} {v : α} (h : atI xs i = some v) : ∃ j, seqIndex? i xs.length = some j ∧ xs[j]? = some v ∧ j < xs.length ∧ -(xs.length : Int) ≤ i ∧ i < xs.length := by
  unfold atI at h
  cases e : ixN xs.length i with
  | none => rw [e] at h; cases h
  | some j =>
    rw [e] at h
    obtain ⟨h1, h2, h3, h4⟩ := ixN_seq e
    exact ⟨j, h1, h, h2, h3, h4⟩
theorem atI_nat {α : Type} {xs : List α} {j : Nat} {v : α} (h : xs[j]? = some v) : atI xs (j : Int) = some v := by
  have hj : j < xs.length := (List.getElem?_eq_some_iff.mp h).1
  have e : ixN xs.length (j : Int) = some j := by
    unfold ixN
    rw [if_pos (by omega), if_pos (by omega)]; simp
  unfold atI; rw [e]; exact h
/-! ### what may be subscripted -/
noncomputable def PlainIx (b : Expr) : Prop := ∀ o i, subscripted b false o i = operate [o, i] (getItem o i)
noncomputable def IxR (X : Cx) (r : R2) : Prop :=
  ∀ (value slice : Expr) (pins : List (Addr × Obj)) (s : Shared) (σ : St) (H : Hp) (x y : V) (v u : Value) (Q : VK), Inv X pins σ H s → RelV x v → RelV y u → r x y H Q →
    subscripted slice false v u = operate [v, u] (getItem v u) → wpAny (model X.prog X.w) X.A (subscriptTail value slice v u) (EP X pins σ Q) X.xe s
noncomputable def MtR (X : Cx) (id : String) (r : V → List V → Hp → VK → Prop) : Prop :=
  ∀ (pins : List (Addr × Obj)) (s : Shared) (σ : St) (H : Hp) (x : V) (xs : List V) (v : Value) (us : List Value) (Q : VK), Inv X pins σ H s → RelV x v → Vals xs us → r x xs H Q →
    wpAny (model X.prog X.w) X.A (call (.builtin id) (v :: us)) (EP X pins σ Q) X.xe s
section
variable {X : Cx} {a b : Expr} {ta tb : TE} {pos : Pos}
theorem pe_ix {r : R2} (hr : IxR X r) (ha : PE X a ta) (hb : PE X b tb) (hs : PlainIx b) : PE X (.Subscript a b pos) (tOp r ta tb) := by
  intro pins s σ H Q I h
  exact Subscript_ (binT ha hb I h fun v u s2 x y H2 I2 rx ry q => hr a b pins s2 σ H2 x y v u Q I2 rx ry q (hs _ _))

noncomputable def rIxL (K : PySem.W.Frag) : R2 := fun x y H Q => ∃ p xs i v, x = .ref p ∧ y = .int i ∧ SqL K H p xs ∧ atI xs i = some v ∧ Q v H
noncomputable def rIxT (K : PySem.W.Frag) : R2 := fun x y H Q => ∃ p xs i v, x = .ref p ∧ y = .int i ∧ SqT K H p xs ∧ atI xs i = some v ∧ Q v H
noncomputable def rIxS : R2 := fun x y H Q => ∃ z i c, x = .str z ∧ y = .int i ∧ z.length ≤ sizeLine ∧ atI z.cps.toList i = some c ∧ Q (.str ⟨#[c]⟩) H
theorem ix_list : IxR X (rIxL X.K) := by
  intro value slice pins s σ H x y v u Q I rx ry h hs
  obtain ⟨p, xs, i, z, rfl, rfl, hq, he, q⟩ := h
  cases rx
  obtain ⟨t, rfl⟩ := ry
  obtain ⟨its, r, pl, hz⟩ := I.list hq
  obtain ⟨j, h1, h2, h3, h4, h5⟩ := atI_get he
  obtain ⟨w, ew, rw'⟩ := r.get h2
  have hl := r.length
  have hn := line63
  have fin : EP X pins σ Q w s := ⟨z, H, I, rw', q⟩
  by_cases h0 : 0 ≤ i
  · have hj : i.toNat = j := by
      rw [seqIndex_of h0 h5] at h1
      exact Option.some.inj h1
    exact item_listR pl.isList h0 (by omega) (by rw [hj]; simpa using ew) fin hs
  · have hj : (i + (its.toArray.size : Int)).toNat = j := by
      rw [seqIndex_neg (by omega) h4] at h1
      rw [List.size_toArray, ← hl]
      exact Option.some.inj h1
    exact subscriptTail_builtinR (x := w) pl.isList.typeIs slot_list_getitem.lookup
      (wpAny_getItem_list_neg (Q := fun r s' => r = w ∧ EP X pins σ Q r s') pl.isList (by omega) (by rw [List.size_toArray] <;> omega) (by omega) (by rw [hj]; simpa using ew) ⟨rfl, fin⟩) hs
theorem ix_tup : IxR X (rIxT X.K) := by
  intro value slice pins s σ H x y v u Q I rx ry h hs
  obtain ⟨p, xs, i, z, rfl, rfl, hq, he, q⟩ := h
  cases rx
  obtain ⟨t, rfl⟩ := ry
  obtain ⟨its, r, pl, hz⟩ := I.tuple hq
  obtain ⟨j, h1, h2, h3, h4, h5⟩ := atI_get he
  obtain ⟨w, ew, rw'⟩ := r.get h2
  have hl := r.length
  have hn := line63
  have fin : EP X pins σ Q w s := ⟨z, H, I, rw', q⟩
  exact subscriptTail_builtinR (x := w) pl.typeIs slot_tuple_getitem.lookup
    (getItem_tuple (j := j) (Q := fun r s' => r = w ∧ EP X pins σ Q r s') pl (by omega) (by omega) (by rw [List.size_toArray, ← hl]; exact h1) (by simpa using ew) ⟨rfl, fin⟩) hs
theorem ix_str : IxR X rIxS := by
  intro value slice pins s σ H x y v u Q I rx ry h hs
  obtain ⟨z, i, c, rfl, rfl, hz, he, q⟩ := h
  obtain ⟨t, rfl⟩ := rx
  obtain ⟨t', rfl⟩ := ry
  obtain ⟨j, h1, h2, h3, h4, h5⟩ := atI_get he
  have hl : z.cps.toList.length = z.length := by simp [Str.length]
  rw [hl] at h1 h4 h5
  have hn := line63
  exact tail_any (typeIs_str s z t) slot_str_getitem.lookup (getItem_str (c := c) (by
    have e1 : decide (i < -(2 ^ 63 : Int)) = false := decide_eq_false (by omega)
    have e2 : decide (i ≥ 2 ^ 63) = false := decide_eq_false (by omega)
    rw [e1, e2, Bool.or_false]) (by rw [h1]; simpa using h2) ⟨.str ⟨#[c]⟩, H, I.tok _, ⟨_, rfl⟩, q⟩) hs
/-! ### xs[i] = v, any sign -/
theorem mapSeq_set (its : List Value) (n j : Nat) (u : Value) : Obj.mapSeq (·.setIfInBounds j u) { cls := .type "list", data := .seq its.toArray n } = { cls := .type "list", data := .seq (its.set j u).toArray n } := by
  simp [Obj.mapSeq]
theorem Inv.lst {pins : List (Addr × Obj)} {σ : St} {H : Hp} {s : Shared} {p : Addr} {xs : List V} (I : Inv X pins σ H s) (h : H p = some (.lst xs)) :
    ∃ (its : List Value) (n : Nat), Vals xs its ∧ s.heap.get? p = some { cls := .type "list", data := .seq its.toArray n } ∧ xs.length ≤ sizeLine := by
  obtain ⟨z, its, n, r, e⟩ := I.hok p _ h
  exact ⟨its, n, r, e, z⟩
theorem Inv.lstUpd {pins : List (Addr × Obj)} {σ : St} {H : Hp} {s : Shared} {p : Addr} {xs ys : List V} {its its' : List Value} {n n' : Nat} {f : Obj → Obj} (I : Inv X pins σ H s) (h : H p = some (.lst xs))
    (ho : s.heap.get? p = some { cls := .type "list", data := .seq its.toArray n }) (hf : f { cls := .type "list", data := .seq its.toArray n } = { cls := .type "list", data := .seq its'.toArray n' }) (r : Vals ys its') (hz : ys.length ≤ sizeLine) (t : Nat) :
    Inv X pins σ (upd H p (.lst ys)) { s with heap := s.heap.update p f, toks := t } := by
  have e : (s.heap.update p f).get? p = some { cls := .type "list", data := .seq its'.toArray n' } := by
    rw [Heap.get?_update_self f ho (by rw [hf] <;> rfl), hf]
  refine I.write (x := p) (e := p) (by rw [h]; trivial) (.inl rfl) (fun b u hb q => (Heap.get?_update_other _ _ (Ne.symm hb)).trans q) ⟨_, e⟩ ?_
  exact ⟨hz, its', n', r, e⟩
noncomputable def rSetL : V → V → V → Hp → (Hp → Prop) → Prop := fun o i v H Q => ∃ p xs k j, o = .ref p ∧ i = .int k ∧ H p = some (.lst xs) ∧ ixN xs.length k = some j ∧ Q (upd H p (.lst (xs.set j v)))
theorem set_list : PSet X rSetL := by
  intro pins s σ H o i v ov iv u Q I ro ri rv h
  obtain ⟨p, xs, k, j, rfl, rfl, hp, hj, q⟩ := h
  cases ro
  obtain ⟨t, rfl⟩ := ri
  obtain ⟨its, n, r, ho, hz⟩ := I.lst hp
  obtain ⟨h1, h2, h3, h4⟩ := ixN_seq hj
  have hl := r.length
  have hn := line63
  have I' : Inv X pins σ (upd H p (.lst (xs.set j v))) { s with heap := s.heap.update p (Obj.mapSeq (·.setIfInBounds j u)) } :=
    I.lstUpd hp ho (mapSeq_set its n j u) (r.set rv j) (by rw [List.length_set]; exact hz) s.toks
  by_cases h0 : 0 ≤ k
  · have hk : k.toNat = j := by
      rw [seqIndex_of h0 h4] at h1
      exact Option.some.inj h1
    exact PySem.W.ki_setAt ho h0 (by omega) (by rw [List.size_toArray, ← hl]; exact h4) (by rw [hk]; exact ⟨_, I', q⟩)
  · have hk : (k + (its.toArray.size : Int)).toNat = j := by
      rw [seqIndex_neg (by omega) h3] at h1
      rw [List.size_toArray, ← hl]
      exact Option.some.inj h1
    exact PySem.W.ki_setBack ho (by omega) (by rw [List.size_toArray, ← hl]; exact h3) (by omega) (by rw [hk]; exact ⟨_, I', q⟩)

/-! ### slices -/
theorem slice_bounds (lo hi : Option Int) (n : Nat) : (sliceBounds lo hi none n).1 = ((HT.sIx n 0 lo : Nat) : Int) ∧ (sliceBounds lo hi none n).2.1 = ((HT.sIx n n hi : Nat) : Int) ∧ (sliceBounds lo hi none n).2.2 = 1 := by
  refine ⟨?_, ?_, rfl⟩
  · cases lo with
    | none => simp [sliceBounds, HT.sIx]
    | some i =>
      simp only [sliceBounds, HT.sIx, Option.getD_none, show (1 : Int) > 0 by decide, if_true]
      by_cases h : i < 0
      · simp only [h, if_true] <;> omega
      · simp only [h, if_false] <;> omega
  · cases hi with
    | none => simp [sliceBounds, HT.sIx]
    | some i =>
      simp only [sliceBounds, HT.sIx, Option.getD_none, show (1 : Int) > 0 by decide, if_true]
      by_cases h : i < 0
      · simp only [h, if_true] <;> omega
      · simp only [h, if_false] <;> omega
theorem slicePick_cut (its : List Value) (lo hi : Option Int) : slicePick its.toArray lo hi none = ((its.drop (HT.sIx its.length 0 lo)).take (HT.sIx its.length its.length hi - HT.sIx its.length 0 lo)).toArray := by
  obtain ⟨h1, h2, h3⟩ := slice_bounds lo hi its.toArray.size
  unfold slicePick
  rw [h1, h2, h3]
  simp only [sliceRange_one, pick_run, List.size_toArray] <;> rfl
noncomputable def rSlL (K : PySem.W.Frag) : V → Option Int → Option Int → Hp → VK → Prop := fun x lo hi H Q => ∃ a xs, x = .ref a ∧ SqL K H a xs ∧ ∀ p, H p = none → Q (.ref p) (upd H p (.lst (cutV xs lo hi)))
theorem sl_list : SlR X (rSlL X.K) := by
  intro pins s σ H x v vl vu lo hi sl Q I rx hs pl pu h
  obtain ⟨a, xs, rfl, hx, q⟩ := h
  cases rx
  obtain ⟨its, r, ht, hz⟩ := I.list hx
  have hlen := r.length
  refine ⟨"list", _, slot_list_getitem.lookup, ht.isList.typeIs, ?_⟩
  refine wpAny_getItem_list_slice ht.isList hs pl pu .none (by simp) ?_ (by rw [List.size_toArray] <;> omega)
  rw [slicePick_cut, ← hlen]
  refine ⟨.ref s.heap.objs.size, _, I.laid (t' := s.toks) (o := .lst (cutV xs lo hi)) (fun b ob q => Heap.get?_push_of_some _ q) (Nat.le_refl _) ?_, rfl, q _ (I.hok.fresh (Nat.le_refl _))⟩
  exact ⟨Nat.le_trans (cutV_length xs lo hi) hz, _, 0, (r.drop (HT.sIx xs.length 0 lo)).take (HT.sIx xs.length xs.length hi - HT.sIx xs.length 0 lo), Heap.get?_push_size _ rfl⟩

/-! ### in, not in: flat items -/
noncomputable def flatV : V → Bool
  | .non => true
  | .bl _ => true
  | .int _ => true
  | .str _ => true
  | _ => false
noncomputable def eqV : V → V → Bool
  | .non, .non => true
  | .bl a, .bl b => a == b
  | .bl a, .int b => (if a then 1 else 0) == b
  | .int a, .bl b => a == (if b then 1 else 0)
  | .int a, .int b => a == b
  | .str a, .str b => a == b
  | _, _ => false
theorem eqAt_V {A : Around} {s : Shared} {y x : V} {u v : Value} (ry : RelV y u) (rx : RelV x v) (fy : flatV y = true) (fx : flatV x = true) : SeqAt.EqAt A s u v (eqV y x) := by
  cases y with
  | non =>
    cases ry
    cases x with
    | non => cases rx; exact SeqAt.EqAt.same _
    | bl b => cases rx; exact SeqAt.EqAt.none_bool b
    | int b => obtain ⟨t, rfl⟩ := rx; exact SeqAt.EqAt.none_int b t
    | str b => obtain ⟨t, rfl⟩ := rx; exact SeqAt.EqAt.none_str b t
    | _ => exact absurd (show false = true from fx) Bool.false_ne_true
  | bl a =>
    cases ry
    cases x with
    | non => cases rx; exact SeqAt.EqAt.bool_none a
    | bl b => cases rx; exact SeqAt.EqAt.bool_bool a b
    | int b => obtain ⟨t, rfl⟩ := rx; exact SeqAt.EqAt.bool_int a b t
    | str b => obtain ⟨t, rfl⟩ := rx; exact SeqAt.EqAt.bool_str a b t
    | _ => exact absurd (show false = true from fx) Bool.false_ne_true
  | int a =>
    obtain ⟨t', rfl⟩ := ry
    cases x with
    | non => cases rx; exact SeqAt.EqAt.int_none a t'
    | bl b => cases rx; exact SeqAt.EqAt.int_bool a t' b
    | int b => obtain ⟨t, rfl⟩ := rx; exact SeqAt.EqAt.int_int a t' b t
    | str b => obtain ⟨t, rfl⟩ := rx; exact SeqAt.EqAt.int_str a t' b t
    | _ => exact absurd (show false = true from fx) Bool.false_ne_true
  | str a =>
    obtain ⟨t', rfl⟩ := ry
    cases x with
    | non => cases rx; exact SeqAt.EqAt.str_none a t'
    | bl b => cases rx; exact SeqAt.EqAt.str_bool a t' b
    | int b => obtain ⟨t, rfl⟩ := rx; exact SeqAt.EqAt.str_int a t' b t
    | str b => obtain ⟨t, rfl⟩ := rx; exact SeqAt.EqAt.str_str a t' b t
    | _ => exact absurd (show false = true from fx) Bool.false_ne_true
  | _ => exact absurd (show false = true from fy) Bool.false_ne_true
noncomputable def eqU (x : V) (u : Value) : Bool := match u with
  | .none => eqV .non x
  | .bool b => eqV (.bl b) x
  | .int i _ => eqV (.int i) x
  | .str z _ => eqV (.str z) x
  | _ => false
theorem eqU_of {x y : V} {u : Value} (r : RelV y u) (f : flatV y = true) : eqU x u = eqV y x := by
  cases y with
  | non => cases r; rfl
  | bl b => cases r; rfl
  | int i => obtain ⟨t, rfl⟩ := r; rfl
  | str z => obtain ⟨t, rfl⟩ := r; rfl
  | _ => exact absurd (show false = true from f) Bool.false_ne_true
theorem any_eqU {x : V} : ∀ {xs : List V} {us : List Value}, Vals xs us → xs.all flatV = true → us.any (eqU x) = xs.any fun y => eqV y x
  | _, _, .nil, _ => rfl
  | y :: xs, u :: us, .cons r t, f => by
    rw [List.all_cons, Bool.and_eq_true] at f
    rw [List.any_cons, List.any_cons, eqU_of r f.1, any_eqU t f.2]
theorem mem_eqAt {A : Around} {s : Shared} {x : V} {v : Value} (rx : RelV x v) (fx : flatV x = true) : ∀ {xs : List V} {us : List Value}, Vals xs us → xs.all flatV = true → ∀ u ∈ us, SeqAt.EqAt A s u v (eqU x u)
  | _, _, .nil, _ => fun u hu => by cases hu
  | y :: xs, u :: us, .cons r t, f => fun u' hu => by
    rw [List.all_cons, Bool.and_eq_true] at f
    rcases List.mem_cons.mp hu with rfl | hu
    · rw [eqU_of r f.1]; exact eqAt_V r rx f.1 fx
    · exact mem_eqAt rx fx t f.2 u' hu
noncomputable def inV (x : V) (xs : List V) : Bool := xs.any fun y => eqV y x
noncomputable def rIn (K : PySem.W.Frag) (neg : Bool) : R2 := fun x y H Q => ∃ p xs, y = .ref p ∧ (SqL K H p xs ∨ SqT K H p xs) ∧ flatV x = true ∧ xs.all flatV = true ∧ Q (.bl (if neg then !inV x xs else inV x xs)) H
theorem op_notIn_seq : OpR X (compareOp .NotIn) (rIn X.K true) := by
  intro pins s σ H x y v u Q I rx ry h
  obtain ⟨p, xs, rfl, hq, fx, fs, q⟩ := h
  cases ry
  rcases hq with hq | hq
  · obtain ⟨its, r, pl, hz⟩ := I.list hq
    refine SeqAt.notIn_listAt (eqU x) pl.isList (fun w hw => mem_eqAt rx fx r fs w (by simpa using hw)) ⟨.bl _, H, I, rfl, ?_⟩
    rw [show its.toArray.any (eqU x) = its.any (eqU x) by simp, any_eqU r fs]
    exact q
  · obtain ⟨its, r, pl, hz⟩ := I.tuple hq
    refine SeqAt.notIn_tupleAt (eqU x) pl (fun w hw => mem_eqAt rx fx r fs w (by simpa using hw)) ⟨.bl _, H, I, rfl, ?_⟩
    rw [show its.toArray.any (eqU x) = its.any (eqU x) by simp, any_eqU r fs]
    exact q
/-! ### len, list(x), tuple(x) of any list or tuple that is read -/
theorem call_len_seq : CallR X (.builtin "len") (fun xs H Q => ∃ p ys, xs = [.ref p] ∧ (SqL X.K H p ys ∨ SqT X.K H p ys) ∧ Q (.int ys.length) H) := by
  intro pins s σ H xs us Q I r h
  obtain ⟨p, ys, rfl, hq, q⟩ := h
  obtain ⟨u, rfl, rx⟩ := vals1 r
  cases rx
  have hn := line63
  rcases hq with hq | hq
  · obtain ⟨its, r', pl, hz⟩ := I.list hq
    have hlen := r'.length
    exact Calls.call_len_list pl.isList (by simp only [List.size_toArray] <;> omega) ⟨.int ys.length, H, I.tok _, ⟨s.toks + 1, by rw [List.size_toArray, hlen]⟩, q⟩
  · obtain ⟨its, r', pl, hz⟩ := I.tuple hq
    have hlen := r'.length
    exact len_tuple pl (by simp only [List.size_toArray] <;> omega) ⟨.int ys.length, H, I.tok _, ⟨s.toks + 1, by rw [List.size_toArray, hlen]⟩, q⟩
theorem call_len_str : CallR X (.builtin "len") (fun xs H Q => ∃ z, xs = [.str z] ∧ z.length ≤ sizeLine ∧ Q (.int z.length) H) := by
  intro pins s σ H xs us Q I r h
  obtain ⟨z, rfl, hz, q⟩ := h
  obtain ⟨u, rfl, t, rfl⟩ := vals1 r
  have hn := line63
  exact len_str (by omega) ⟨.int z.length, H, I.tok _, ⟨_, rfl⟩, q⟩
theorem call_list_of : CallR X (.type "list") (fun xs H Q => ∃ p ys, xs = [.ref p] ∧ (SqL X.K H p ys ∨ SqT X.K H p ys) ∧ ∀ l, H l = none → Q (.ref l) (upd H l (.lst ys))) := by
  intro pins s σ H xs us Q I r h
  obtain ⟨p, ys, rfl, hq, q⟩ := h
  obtain ⟨u, rfl, rx⟩ := vals1 r
  cases rx
  have fin : ∀ (its : List Value), Vals ys its → ys.length ≤ sizeLine → ∀ (h' : Heap) (c' : Nat), (∀ b o', s.heap.get? b = some o' → h'.get? b = some o') →
      h'.get? s.heap.objs.size = some { cls := .type "list", dict := none, data := .seq its.toArray c', slots := #[] } → EP X pins σ Q (.ref s.heap.objs.size) { s with heap := h' } := fun its r' hz h' c' kp e =>
    ⟨.ref s.heap.objs.size, _, I.laid (t' := s.toks) kp (Nat.le_refl _) (show ObjOk X.prog X.w _ h' _ (.lst ys) from ⟨hz, its, c', r', e⟩), rfl, q _ (I.hok.fresh (Nat.le_refl _))⟩
  rcases hq with hq | hq
  · obtain ⟨its, r', pl, hz⟩ := I.list hq
    have hlen := r'.length
    obtain ⟨o, ho, hc, n, hd⟩ := pl.isList
    exact call_list_seq p (.inl rfl) ho hc hd (fun h' c' kp e => fin its r' hz h' c' kp e) (by simp only [List.size_toArray] <;> omega)
  · obtain ⟨its, r', pl, hz⟩ := I.tuple hq
    have hlen := r'.length
    obtain ⟨o, ho, hc, n, hd⟩ := pl
    exact call_list_seq p (.inr rfl) ho hc hd (fun h' c' kp e => fin its r' hz h' c' kp e) (by simp only [List.size_toArray] <;> omega)
theorem call_tuple_of : CallR X (.type "tuple") (fun xs H Q => ∃ p ys, xs = [.ref p] ∧ ((SqL X.K H p ys ∧ ∀ l, H l = none → Q (.ref l) (upd H l (.tup ys))) ∨ (SqT X.K H p ys ∧ Q (.ref p) H))) := by
  intro pins s σ H xs us Q I r h
  obtain ⟨p, ys, rfl, h⟩ := h
  obtain ⟨u, rfl, rx⟩ := vals1 r
  cases rx
  rcases h with ⟨hq, q⟩ | ⟨hq, q⟩
  · obtain ⟨its, r', pl, hz⟩ := I.list hq
    have hlen := r'.length
    refine call_tuple_list pl.isList (fun h' kp => ?_) (by simp only [List.size_toArray] <;> omega)
    have I1 : Inv X pins σ H { s with heap := h' } := I.kept (t' := s.toks) kp
    have I2 : Inv X pins σ (upd H h'.objs.size (.tup ys)) { s with heap := h'.push { cls := .type "tuple", data := .seq its.toArray } } :=
      I1.laid (t' := s.toks) (fun b o e => Heap.get?_push_of_some _ e) (Nat.le_refl _) (show ObjOk X.prog X.w _ _ _ (.tup ys) from ⟨hz, its, r', IsTup.new _ _⟩)
    exact ⟨.ref h'.objs.size, _, I2, rfl, q _ (I1.hok.fresh (Nat.le_refl _))⟩
  · obtain ⟨its, r', pl, hz⟩ := I.tuple hq
    exact call_tuple_same pl ⟨.ref p, H, I, rfl, q⟩

/-! ### the call of a builtin's method: o.m(..) -/
noncomputable def tyV (K : PySem.W.Frag) (T : String) (x : V) (H : Hp) : Prop := match x with
  | .str _ => T = "str"
  | .int _ => T = "int"
  | .ref p => (T = "list" ∧ ∃ xs, SqL K H p xs) ∨ (T = "tuple" ∧ ∃ o, K.lookup p = some o ∧ o.cls = .type "tuple" ∧ o.dict = none) ∨
      (T = "dict" ∧ ((∃ kvs, H p = some (.dK kvs)) ∨ ∃ kvs, H p = some (.dT kvs))) ∨ (T = "set" ∧ ∃ S n, H p = some (.set S n))
  | _ => False
theorem tyV_is {pins : List (Addr × Obj)} {σ : St} {H : Hp} {s : Shared} {T : String} {x : V} {v : Value} (I : Inv X pins σ H s) (r : RelV x v) (ty : tyV X.K T x H) :
    s.TypeIs v T ∧ ∀ a, v = .ref a → ∃ ob, s.heap.get? a = some ob ∧ ob.dict = none := by
  cases x with
  | str z =>
    obtain ⟨t, rfl⟩ := r
    cases (show T = "str" from ty)
    exact ⟨typeIs_str s z t, fun _ e => nomatch e⟩
  | int i =>
    obtain ⟨t, rfl⟩ := r
    cases (show T = "int" from ty)
    exact ⟨typeIs_int s i t, fun _ e => nomatch e⟩
  | ref p =>
    cases r
    rcases ty with ⟨rfl, xs, hq⟩ | ⟨rfl, o, hk, hc, hd⟩ | ⟨rfl, hk⟩ | ⟨rfl, S, n, hk⟩
    · obtain ⟨its, _, pl, _⟩ := I.list hq
      refine ⟨pl.isList.typeIs, fun a e => ?_⟩
      cases e
      obtain ⟨o, n, e, c, hd, _⟩ := pl
      exact ⟨o, e, hd⟩
    · refine ⟨⟨o, I.kIn p o hk, hc⟩, fun a e => ?_⟩
      cases e
      exact ⟨o, I.kIn _ o hk, hd⟩
    · have z : ∃ o, s.heap.get? p = some o ∧ o.ExactDict := by
        rcases hk with ⟨kvs, hk⟩ | ⟨kvs, hk⟩
        · obtain ⟨_, _, _, _, o, _, _, e, ex, _⟩ := I.hok p _ hk
          exact ⟨o, e, ex⟩
        · obtain ⟨_, _, _, _, o, _, _, e, ex, _⟩ := I.hok p _ hk
          exact ⟨o, e, ex⟩
      obtain ⟨o, e, ex⟩ := z
      refine ⟨⟨o, e, ex.1⟩, fun a e2 => ?_⟩
      cases e2
      exact ⟨o, e, ex.2.1⟩
    · obtain ⟨o, _, _, _, e, ex, _⟩ := I.hok p _ hk
      refine ⟨⟨o, e, ex.1⟩, fun a e2 => ?_⟩
      cases e2
      exact ⟨o, e, ex.2.1⟩
  | _ => exact False.elim ty
noncomputable def tBM (K : PySem.W.Frag) (T : String) (r : V → List V → Hp → VK → Prop) (to : TE) (t : TA) : TE := fun σ H Q => to σ H fun x H1 => tyV K T x H1 ∧ t σ H1 fun xs H2 => r x xs H2 Q
variable {o e : Expr} {es : List Expr} {to : TE} {t : TA} {name : Str} {apos cpos : Pos} {T id : String} {r : V → List V → Hp → VK → Prop}
theorem pe_bm (pa : PlainAttrs T) (slot : Slot T name id) (hty : typeOf (.builtin id) = pure (.type "method_descriptor")) (hm : MtR X id r) (ho : PE X o to) (ha : PA X (e :: es) t)
    (hbase : attributeBase o name X.env (eval o X.env) = eval o X.env := by rfl)
    (hfew : ((backTo cpos (starEach (e :: es) X.env)).all (fun x => !x.1) && (backToKw cpos (keywordEach [] X.env)).all (fun x => x.1.isSome)
      && decide ((e :: es).length + ([] : List Keyword).length + (if ([] : List Keyword).isEmpty then 0 else 1) < 30)) = true := by rfl)
    (hline : (apos.endLine == cpos.line) = true := by rfl) (hs : starEach (e :: es) X.env = (false, eval e X.env) :: starEach es X.env := by rfl) (hplain : (backTo cpos (starEach es X.env)).any (·.1) = false := by rfl) :
    PE X (.Call (.Attribute o name apos) (e :: es) [] cpos) (tBM X.K T r to t) := by
  intro pins s σ H Q I h
  refine wpAny_Call_method_late hbase hfew hline rfl (thn (ho pins s σ H _ I h) fun v s1 ⟨x, H1, I1, r1, ty, q1⟩ => ?_)
  obtain ⟨h1, h2⟩ := tyV_is I1 r1 ty
  refine ⟨T, id, pa, slot, hty, h1, h2, ?_⟩
  have hA := ha cpos pins s1 σ H1 _ I1 q1
  rw [hs] at hA ⊢
  refine Calls.callWith_builtin (by show (false || (backTo cpos (starEach es X.env)).any (·.1)) = false; rw [hplain] <;> rfl) (Calls.evalArgs_plain ?_)
  exact thn hA fun us s2 ⟨vs, H2, I2, r2, q2⟩ => hm pins s2 σ H2 x vs v us Q I2 r1 r2 q2
/- xs.append(e), list.index on a module's tuple .. are MtR facts of 06m -/
end
end L2

namespace L2
open PySem PySem.Spec PyProof.Rows

noncomputable def MtM (X : Cx) (id : String) (r : V → List V → Hp → VK → Prop) : Prop :=
  ∀ (pins : List (Addr × Obj)) (s : Shared) (σ : St) (H : Hp) (x : V) (xs : List V) (v : Value) (us : List Value) (Q : VK), Inv X pins σ H s → RelV x v → Vals xs us → r x xs H Q →
    wpAny (model X.prog X.w) X.A (call (.builtin id) (v :: us)) (EP X pins σ Q) X.xe s

/-! ### lists of values -/
theorem Vals.one : ∀ {x : V} {us : List Value}, Vals [x] us → ∃ u, us = [u] ∧ RelV x u
  | _, _, .cons r .nil => ⟨_, rfl, r⟩
section
variable {X : Cx} {pins : List (Addr × Obj)} {σ : St} {H : Hp} {s : Shared} {l b : Addr} {xs ys zs : List V}

/-! ### the two steps: a tracked list is rewritten, a new list is laid -/
theorem Inv.lset {its its' : List Value} {n : Nat} {f : Array Value → Array Value} {t' : Nat} (I : Inv X pins σ H s) (hH : H l = some (.lst xs))
    (e : s.heap.get? l = some { cls := .type "list", data := .seq its.toArray n }) (hf : f its.toArray = its'.toArray) (hv : Vals ys its') (hz : ys.length ≤ sizeLine) :
    Inv X pins σ (upd H l (.lst ys)) { s with heap := s.heap.update l (Obj.mapSeq f), toks := t' } := by
  have q := PySem.IsL.update e f
  rw [hf] at q
  refine I.write (x := l) (e := l) (by rw [hH]; exact trivial) (.inl rfl) (fun b' u hb hu => (Heap.get?_update_other s.heap (Obj.mapSeq f) (Ne.symm hb)).trans hu) ⟨_, q⟩ ?_
  exact ⟨hz, its', _, hv, q⟩
theorem Inv.lnew {its : List Value} {t' : Nat} (I : Inv X pins σ H s) (hv : Vals ys its) (hz : ys.length ≤ sizeLine) :
    Inv X pins σ (upd H s.heap.objs.size (.lst ys)) { s with heap := s.heap.push { cls := .type "list", data := .seq its.toArray }, toks := t' } :=
  I.laid (fun _ _ q => Heap.get?_push_of_some _ q) (Nat.le_refl _) ⟨hz, its, 0, hv, Heap.get?_push_size _ rfl⟩
theorem Inv.fresh (I : Inv X pins σ H s) : H s.heap.objs.size = none := I.hok.fresh (Nat.le_refl _)
theorem Inv.lstM (I : Inv X pins σ H s) (hH : H l = some (.lst xs)) : xs.length ≤ sizeLine ∧ ∃ (its : List Value) (n : Nat), Vals xs its ∧ xs.length = its.length ∧ s.heap.get? l = some { cls := .type "list", data := .seq its.toArray n } := by
  obtain ⟨z, its, n, r, e⟩ := I.hok l _ hH
  exact ⟨z, its, n, r, r.length, e⟩

theorem notLongL {n : Nat} (h : n ≤ sizeLine) : Builtin.List.listTooLong n = false := by
  unfold Builtin.List.listTooLong
  exact decide_eq_false (by omega)
end

section
variable {X : Cx}

/-! ### methods -/
noncomputable def rAppend : V → List V → Hp → VK → Prop := fun x vs H Q => ∃ l xs y, x = .ref l ∧ vs = [y] ∧ H l = some (.lst xs) ∧ xs.length < sizeLine ∧ Q .non (upd H l (.lst (xs ++ [y])))
theorem mt_append : MtM X "list.append" rAppend := by
  intro pins s σ H x vs v us Q I rx rv h
  obtain ⟨l, xs, y, rfl, rfl, hH, hz, q⟩ := h
  cases rx
  obtain ⟨u, rfl, ru⟩ := rv.one
  obtain ⟨z, its, n, r, hl, e⟩ := I.lstM hH
  refine call_meets F.slot_list_append ⟨_, e, rfl⟩ F.entry_list_append (F.args_list_append_2 _ _) (PySem.list_append l its.toArray n u (by rw [List.size_toArray]; omega)) ⟨e, ?_⟩
  refine ⟨.non, _, I.lset (its' := its ++ [u]) hH e (by simp) (r.append (.cons ru .nil)) ?_, rfl, q⟩
  rw [List.length_append, List.length_singleton]
  omega

/-! ### list + list, list += list, list * int -/
noncomputable def rCat : R2 := fun x y H Q => ∃ l b xs zs, x = .ref l ∧ y = .ref b ∧ H l = some (.lst xs) ∧ H b = some (.lst zs) ∧ xs.length + zs.length ≤ sizeLine ∧ ∀ p, H p = none → Q (.ref p) (upd H p (.lst (xs ++ zs)))
theorem op_cat : OpR X (binaryOp .Add) rCat := by
  intro pins s σ H x y v u Q I rx ry h
  obtain ⟨l, b, xs, zs, rfl, rfl, hH, hB, hz, q⟩ := h
  cases rx
  cases ry
  obtain ⟨z, its, n, r, hl, e⟩ := I.lstM hH
  obtain ⟨z2, its2, n2, r2, hl2, e2⟩ := I.lstM hB
  refine PySem.P.add_list e e2 ?_ (by rw [List.size_toArray, List.size_toArray]; omega)
  have ea : its.toArray ++ its2.toArray = (its ++ its2).toArray := by simp
  rw [ea]
  exact ⟨.ref _, _, I.lnew (t' := s.toks) (r.append r2) (by rw [List.length_append]; omega), rfl, q _ I.fresh⟩
/-! ### del xs[i] -/
end

/-! ### xs[a:b] = ys -/
section
variable {prog : Program} {w : World} {A : Around} {E : Value → Shared → Prop} {s : Shared}
theorem bounds_run {a c n : Nat} (hac : a ≤ c) (hc : c ≤ n) : sliceBounds (some (a : Int)) (some (c : Int)) none n = ((a : Int), (c : Int), 1) := by
  simp only [sliceBounds, Option.getD_none]
  have h1 : ¬ ((a : Int) < 0) := by omega
  have h2 : ¬ ((c : Int) < 0) := by omega
  simp only [h1, h2, if_false, show (1 : Int) > 0 by decide, if_true]
  congr 1
  · omega
  · congr 1; omega
set_option maxRecDepth 100000 in
theorem setItem_slice {l b sl : Addr} {items new : Array Value} {n n2 : Nat} {vl vu : Value} {a c : Nat} {Q : Unit → Shared → Prop}
    (e : s.heap.get? l = some { cls := .type "list", data := .seq items n }) (e2 : s.heap.get? b = some { cls := .type "list", data := .seq new n2 }) (hne : l ≠ b)
    (hs : s.heap.IsSliceOf sl vl vu .none) (pl : IsPart vl (some (a : Int))) (pu : IsPart vu (some (c : Int))) (hac : a ≤ c) (hc : c ≤ items.size)
    (hsz : items.size + new.size ≤ sizeLine) (h : Q () { s with heap := s.heap.update l (Obj.mapSeq fun xs => xs.extract 0 a ++ new ++ xs.extract c xs.size) }) :
    wpAny (model prog w) A (setItem (.ref l) (.ref sl) (.ref b)) Q E s := by
  have hl : s.heap.IsList l items := PySem.IsL.isList e
  have hb : s.heap.IsList b new := PySem.IsL.isList e2
  obtain ⟨os, hos, hcs, hds⟩ := id hs
  have hTs : s.TypeIs (.ref sl) "slice" := ⟨os, hos, hcs⟩
  have hstep : ¬ ((rawPart none == rawInt 0) = true) := Bool.false_ne_true
  have hsame : Builtin.List.listSameRef (.ref l) (.ref b) = false := by
    unfold Builtin.List.listSameRef
    exact beq_eq_false_iff_ne.mpr hne
  have hmax : (max (a : Int) (c : Int)).toNat = c := by omega
  have hz' : ((fun xs : Array Value => xs.extract 0 a ++ new ++ xs.extract c xs.size) items).size ≤ sizeLine + 1 := by
    simp only [Array.size_append, Array.size_extract]
    omega
  unfold setItem
  try with_reducible refine wpAny_holding ?_
  first | refine wpAny_bind (wpAny_pure ?_) | skip
  refine wpAny_bind (wpAny_sequenceKey hl.typeIs (by decide) ?_)
  refine wpAny_bind (wpAny_callSpecial?_slot (name := Str.ofString "__setitem__") hl.typeIs slot_list_setitem
    (wpAny_call_entry slot_list_setitem hl.typeIs entry_list_setitem ?_ (args_list_setitem _ _ _)))
  show wpAny _ _ (Builtin.List.listSubscript? (.ref sl) >>= _) _ _ s
  refine wpAny_bind ?_
  unfold Builtin.List.listSubscript?
  refine wpAny_bind (wpAny_specialOf hTs slice_no_index ?_)
  simp only [Option.isNone_none, if_true]
  refine wpAny_pure ?_
  show wpAny _ _ (typeOf (.ref sl) >>= _) _ _ s
  refine wpAny_bind (wpAny_typeOf hTs ?_)
  first
    | rw [if_neg (by decide)]
    | refine PySem.W.KFB.if_not (by decide) ?_
  rw [listSliceParts_eq]
  refine wpAny_bind (wpAny_bind (wpAny_field hos hds (x := .none) rfl (wpAny_bind (wpAny_listPart .none ?_))))
  rw [if_neg hstep]
  refine wpAny_bind (wpAny_field hos hds (x := vl) rfl (wpAny_bind (wpAny_listPart pl ?_)))
  refine wpAny_bind (wpAny_field hos hds (x := vu) rfl (wpAny_bind (wpAny_listPart pu (wpAny_pure ?_))))
  first
    | simp only [hsame, Bool.false_eq_true, if_false]
    | refine PySem.W.KFB.if_not hsame ?_
    | (dsimp only
       rw [if_neg (by rw [hsame]; exact Bool.false_ne_true)])
  refine wpAny_bind (m := Builtin.List.listAllItems (.ref b) "must assign iterable to extended slice") ?_
  unfold Builtin.List.listAllItems
  refine wpAny_bind (wpAny_typeOf hb.typeIs ?_)
  first
    | refine PySem.W.KFB.if_so (by decide) ?_
    | rw [if_pos (by decide)]
    | simp only [beq_self_eq_true, Bool.true_or, if_true]
  unfold Builtin.List.listItems
  refine wpAny_bind (wpAny_seqItems e2 rfl (wpAny_pure ?_))
  refine wpAny_bind (wpAny_bind (wpAny_seqItems e rfl (wpAny_pure ?_)))
  refine wpAny_bind (wpAny_of_eq ((sliceIndices_raw (some (a : Int)) (some (c : Int)) none items.size (by simp)).trans (congrArg (pure : Int × Int × Int → Sem (Int × Int × Int)) (bounds_run hac hc))) ?_)
  show wpAny _ _ (if ((1 : Int) == 1) = true then _ else _) _ _ s
  rw [if_pos (by decide)]
  refine wpAny_bind (wpAny_rule ?_)
  first
    | simp only [notLongL hsz, Bool.false_eq_true, if_false]
    | refine PySem.W.KFB.if_not (notLongL hsz) ?_
  first | refine wpAny_bind (wpAny_pure ?_) | skip
  show wpAny _ _ (updateSeq l (fun xs => xs.extract 0 ((a : Int)).toNat ++ new ++ xs.extract (max (a : Int) (c : Int)).toNat xs.size) >>= _) _ _ s
  rw [hmax, Int.toNat_natCast]
  refine wpAny_bind (wpAny_updateSeq (hz := Nat.le_trans (Nat.le_add_right _ _) hsz) (_hz' := hz') e rfl ?_)
  refine wpAny_bind (wpAny_letGo ?_)
  first
    | exact wpAny_bind (wpAny_pure (wpAny_pure ⟨.none, rfl, wpAny_pure h⟩))
    | exact wpAny_pure ⟨.none, rfl, wpAny_pure h⟩
end

section
variable {X : Cx}
end
end L2

namespace L2
open PySem PySem.Spec PyProof.Rows

/-! ### lists of pairs as tables -/
section
variable {κ : Type} [DecidableEq κ]
noncomputable def valV (kvs : List (κ × V)) (k : κ) : Option V := (kvs.find? fun kv => decide (kv.1 = k)).map (·.2)
noncomputable def putK (kvs : List (κ × V)) (k : κ) (v : V) : List (κ × V) :=
  if (kvs.any fun kv => decide (kv.1 = k)) = true then kvs.map (fun kv => if kv.1 = k then (kv.1, v) else kv) else kvs ++ [(k, v)]
noncomputable def dropK (kvs : List (κ × V)) (k : κ) : List (κ × V) := kvs.filter fun kv => decide (kv.1 ≠ k)

theorem RelO.getD {o : Option V} {u : Option Value} {d : V} {d' : Value} (r : RelO o u) (rd : RelV d d') : RelV (o.getD d) (u.getD d') := by
  cases o with
  | none => cases u with
    | none => exact rd
    | some _ => exact (show False from r).elim
  | some _ => cases u with
    | none => exact (show False from r).elim
    | some _ => exact r

theorem KV.any {kvs : List (κ × V)} {vs : List (κ × Value)} (r : KV kvs vs) (k : κ) : (kvs.any fun kv => decide (kv.1 = k)) = vs.any fun kv => decide (kv.1 = k) := by
  unfold KV at r
  induction r with
  | nil => rfl
  | cons h t ih => rw [List.any_cons, List.any_cons, ih, h.1]
theorem KV.drop {kvs : List (κ × V)} {vs : List (κ × Value)} (r : KV kvs vs) (k : κ) : KV (dropK kvs k) (without vs k) := by
  unfold KV at r ⊢
  unfold dropK without
  induction r with
  | nil => exact .nil
  | @cons p q ps qs h t ih =>
    obtain ⟨h1, h2⟩ := h
    rw [List.filter_cons, List.filter_cons]
    by_cases e : p.1 = k
    · have a : ¬ decide (p.1 ≠ k) = true := by simp [e]
      have b : ¬ decide (q.1 ≠ k) = true := by simp [h1.symm.trans e]
      rw [if_neg a, if_neg b]; exact ih
    · have e' : ¬ q.1 = k := fun z => e (h1.trans z)
      have a : decide (p.1 ≠ k) = true := by simp [e]
      have b : decide (q.1 ≠ k) = true := by simp [e']
      rw [if_pos a, if_pos b]; exact .cons ⟨h1, h2⟩ ih
theorem KV.length {kvs : List (κ × V)} {vs : List (κ × Value)} (r : KV kvs vs) : kvs.length = vs.length := Paired.length r
end


/-! ### a tracked dict, its keys ints and texts or tuples of these -/
section
variable {P : Program} {w : World} {H : Hp} {h : Heap} {a : Addr}
end

noncomputable def DGet (H : Hp) (a : Addr) (y : V) (r : Option V) : Prop :=
  (∃ kvs k, Rd H a (.dK kvs) ∧ y = kV k ∧ r = valV kvs k) ∨ ∃ kvs k b, Rd H a (.dT kvs) ∧ y = .ref b ∧ H b = some (.tup (k.map kV)) ∧ r = valV kvs k
noncomputable def DPut (H : Hp) (a : Addr) (y v : V) (H' : Hp) : Prop :=
  (∃ kvs k, H a = some (.dK kvs) ∧ y = kV k ∧ kvs.length < sizeLine ∧ H' = upd H a (.dK (putK kvs k v))) ∨
  ∃ kvs k b, H a = some (.dT kvs) ∧ y = .ref b ∧ H b = some (.tup (k.map kV)) ∧ kvs.length < sizeLine ∧ H' = upd H a (.dT (putK kvs k v))
theorem DGet.k {H : Hp} {a : Addr} {kvs : List (Key × V)} {k : Key} (e : H a = some (.dK kvs)) : DGet H a (kV k) (valV kvs k) := .inl ⟨kvs, k, .inl e, rfl, rfl⟩
theorem DGet.t {H : Hp} {a b : Addr} {kvs : List (List Key × V)} {k : List Key} (e : H a = some (.dT kvs)) (eb : H b = some (.tup (k.map kV))) : DGet H a (.ref b) (valV kvs k) := .inr ⟨kvs, k, b, .inl e, rfl, eb, rfl⟩
theorem DPut.k {H : Hp} {a : Addr} {kvs : List (Key × V)} {k : Key} {v : V} (e : H a = some (.dK kvs)) (hl : kvs.length < sizeLine) : DPut H a (kV k) v (upd H a (.dK (putK kvs k v))) := .inl ⟨kvs, k, e, rfl, hl, rfl⟩
theorem DPut.t {H : Hp} {a b : Addr} {kvs : List (List Key × V)} {k : List Key} {v : V} (e : H a = some (.dT kvs)) (eb : H b = some (.tup (k.map kV))) (hl : kvs.length < sizeLine) :
    DPut H a (.ref b) v (upd H a (.dT (putK kvs k v))) := .inr ⟨kvs, k, b, e, rfl, eb, hl, rfl⟩


section
variable {X : Cx} {pins : List (Addr × Obj)} {σ : St} {H : Hp} {s : Shared} {a : Addr} {y v : V} {u r : Value} {o : Option V} {A : Around} {E : Value → Shared → Prop}

end

section
variable {X : Cx} {pins : List (Addr × Obj)} {σ : St} {H : Hp} {s : Shared} {a : Addr} {kvs : List (Key × V)} {k : Key} {u : Value} {A : Around} {E : Value → Shared → Prop}
end


/-! ### readings and rules -/
section
variable {X : Cx} {o i e value : Expr} {pos pos' tpos : Pos} {td ty tv : TE}
end


/-! ### displays -/
section
variable {X : Cx} {pos : Pos}
end

/-! ### methods -/
structure M1 (X : Cx) (o : Expr) (m : Str) (apos : Pos) (e : Expr) (cpos : Pos) : Prop where
  base : attributeBase o m X.env (eval o X.env) = eval o X.env
  few : ((backTo cpos (starEach [e] X.env)).all (fun x => !x.1) && (backToKw cpos (keywordEach [] X.env)).all (fun x => x.1.isSome)
    && decide (([e] : List Expr).length + ([] : List Keyword).length + (if ([] : List Keyword).isEmpty then 0 else 1) < 30)) = true
  line : (apos.endLine == cpos.line) = true
  trees : backTo cpos (starEach [e] X.env) = [(false, eval e X.env)]
structure M2 (X : Cx) (o : Expr) (m : Str) (apos : Pos) (e f : Expr) (cpos : Pos) : Prop where
  base : attributeBase o m X.env (eval o X.env) = eval o X.env
  few : ((backTo cpos (starEach [e, f] X.env)).all (fun x => !x.1) && (backToKw cpos (keywordEach [] X.env)).all (fun x => x.1.isSome)
    && decide (([e, f] : List Expr).length + ([] : List Keyword).length + (if ([] : List Keyword).isEmpty then 0 else 1) < 30)) = true
  line : (apos.endLine == cpos.line) = true
  trees : backTo cpos (starEach [e, f] X.env) = [(false, eval e X.env), (false, eval f X.env)]

section
variable {X : Cx} {pins : List (Addr × Obj)} {σ : St} {H : Hp} {s : Shared} {a : Addr} {y d : V} {u r : Value} {o : Option V} {A : Around} {E : Value → Shared → Prop}
end

section
variable {X : Cx} {o e f : Expr} {apos cpos : Pos} {td ty tx : TE}
end

/-! ### dict(d): a copy -/
section
variable {X : Cx} {pins : List (Addr × Obj)} {σ : St} {H : Hp} {s : Shared} {a : Addr} {kvs : List (Key × V)} {A : Around} {E : Value → Shared → Prop}
end


section
variable {X : Cx} {pins : List (Addr × Obj)} {σ : St} {H : Hp} {s : Shared} {a : Addr} {y : V} {u : Value} {A : Around} {E : Value → Shared → Prop}
end
end L2

namespace Att
open PySem PySem.W PySem.Calls PyProof.Rows

/-! ### the script -/
theorem ints_of_wellAll {P : Params} {h : Heap} : ∀ (ns : List Int) (vs : List Value), WellAll P h vs (ns.map WData.int) → IntsAre vs ns := by
  intro ns
  induction ns with
  | nil =>
    intro vs w
    rw [List.map_nil] at w
    cases w
    exact .nil
  | cons n ns ih =>
    intro vs w
    rw [List.map_cons] at w
    cases w with
    | cons a b =>
      cases a
      exact .cons _ _ (ih _ b)

theorem script_of {l : OpenLaw} {n : Nat} (hn : l.most = some n) {P : Params} {h : Heap} {args : List WData} {vals : List Value}
    (hpre : l.row.toRowW.claim.pre args = true) (hwl : WellAll P h vals args) :
    ∃ a vs ns, vals = [Value.ref a] ∧ args = [WData.list (ns.map WData.int)] ∧ h.get? a = some { cls := .type "list", data := .seq vs.toArray } ∧ IntsAre vs ns ∧ ns.length ≤ n := by
  have hsh : WShape.hasAll [] args [.list .int] = true := (pre_splitW hpre).1
  have hc : l.pre.holds [] { args := args } = true := (pre_splitW hpre).2
  obtain ⟨d, r, rfl, h1, h2⟩ := hasAllW_cons hsh
  obtain rfl := hasAllW_nil h2
  obtain ⟨xs, rfl, h3⟩ := hasW_list h1
  obtain ⟨ns, rfl⟩ := items_int h3
  have hlen : ns.length ≤ n := by
    unfold OpenLaw.pre at hc
    have h4 : (WTm.not (.lt (.lit (.int (n : Int))) (.len (.arg 0)))).holds [] { args := [.list (ns.map .int)] } = true := by
      have h4 := (holds_andW hc).1
      rw [hn] at h4
      exact h4
    have h5 := condW_of h4 (w_not (w_lt w_lit (w_len_list (w_arg rfl))))
    rw [List.length_map] at h5
    refine Nat.le_of_not_lt fun q => ?_
    have q' : (n : Int) < ((ns.length : Nat) : Int) := by omega
    first
      | (rw [decide_eq_true q'] at h5; exact absurd h5 (by decide))
      | (simp at h5; omega)
  cases hwl with
  | cons w1 w2 =>
    cases w2
    cases w1 with
    | list ho hall => exact ⟨_, _, ns, rfl, rfl, ho, ints_of_wellAll ns _ hall, hlen⟩

theorem post_true (l : OpenLaw) (args : List WData) : l.row.toRowW.claim.post args (.bool true) args = true :=
  postW_of (r := l.row.toRowW) (X := (true == true))
    (show WShape.has [] (.bool true) .bool = true by first | rfl | decide | simp [WShape.has, WShape.arms, WShape.armsAll])
    (show (WTm.eq .res (.lit (.bool true))).value [] { args := args, res := some (.bool true), after := args } = some (.bool (true == true)) from w_eq_bool (w_res rfl) w_lit) rfl

/-! ### the attachment: holds_open's last premise (the goal 'hc' behind k_head) from a wpAny of the law's body -/
theorem attach_call {l : OpenLaw} {n : Nat} {q : Program} {loose : List Str} {XP : (Str → Option Value) → Heap → Prop} {YP : World → Heap → Prop} {d : DefRec}
    (hn : l.most = some n) (hdf : d.params.defaults = [])
    (call : ∀ (w : World) (s₀ s₁ : Shared) (mg mb : Str → Option Value) (fa : Addr) (o : Obj) (pm cd doc : Value) (a : Addr) (vs : List Value) (ns : List Int),
      Ground q loose [] XP w s₀ mg mb s₁.heap → YP w s₁.heap →
      s₁.heap.get? fa = some o → o.data = .func (docDef d.name d.params d.body d.scope pm cd doc) → s₁.heap.CodeRec cd d.name → mg d.name = some (.ref fa) →
      s₁.heap.get? a = some { cls := .type "list", data := .seq vs.toArray } → IntsAre vs ns → ns.length ≤ n → s₁.gens = #[] →
      codeAny (model l.prog w) callerA (.call (.ref fa) ⟨[.ref a], []⟩) (fun r s' => r = .ok (.ret (.bool true)) ∧ OldK s₁.heap s'.heap ∧ s'.os = s₁.os ∧ AllBare s'.gens) s₁) :
    WalkO q loose XP YP l.row.toRowW d [] (fun f vs => PySem.call f vs) := by
  intro w s₀ s₁ mg mb G Y fa o pm cd doc dV kV ho hd hcd hD hmg hg args vals as hpre hlay hrd hwl hlo
  obtain rfl : dV = .none := Dflts.none hD hdf
  obtain rfl : kV = .none := Dflts.noKw hD
  obtain ⟨a, vs, ns, rfl, rfl, hobj, hints, hlen⟩ := script_of hn hpre hwl
  refine enter_call (codeAny_mono (call w s₀ s₁ mg mb fa o pm cd doc a vs ns G Y ho (fd_plain hd) hcd hmg hobj hints hlen hg) fun r s' hq => ?_)
  obtain ⟨rfl, h2, h3, h4⟩ := hq
  exact ⟨.inl ⟨.bool true, .bool true, [], rfl, fun _ => rfl, .bool true, post_true l _, fun _ => ⟨List.Pairwise.nil, fun _ hm => (nomatch hm)⟩⟩, h2, h3, h4⟩

/-! ### rules over ANY heap (no ledger) from facts about the written part K: the library's own take a ledger (News) for what they write -/
section
variable {prog : Program} {w : World} {A : Around} {E : Value → Shared → Prop} {s : Shared} {K : Frag}

/-! the whole heap as the ledger: makes every rule that writes through a ledger a rule over any heap -/
end
end Att

namespace L2
open PySem PySem.Spec PyProof.Rows

theorem vals_ints : ∀ {vs : List Value} {ns : List Int}, IntsAre vs ns → Vals (ns.map V.int) vs
  | _, _, .nil => .nil
  | _, _, .cons n t h => .cons ⟨t, rfl⟩ (vals_ints h)

noncomputable def Only (H : Hp) : Prop := ∀ b, H b = none ∨ ∃ o xs, H b = some (.frz o (.lst xs))

theorem law_call {P : Program} {w : World} {K : PySem.W.Frag} {mg mb : Str → Option Value} {CX : CXT} {k : Nat} {fa a : Addr} {fd : FuncData} {x : Str} {sp : Sp} {s₁ : Shared} {vs : List Value} {ns : List Int}
    (KX : K.In s₁.heap) (hns : s₁.heap.Ns mainGlobals mg) (hb : s₁.heap.Ns builtinsNs mb) (hbb : ∀ x : Str, x ≠ "__name__" → mb x = bootBuiltins x) (hlim : s₁.heap.NoLimit) (hg : s₁.gens = #[])
    (ha : s₁.heap.get? a = some { cls := .type "list", data := .seq vs.toArray }) (hi : IntsAre vs ns) (hl : ns.length ≤ sizeLine) (hr : Room k callerA)
    (F : ∀ base : Heap, K.In base → base.Ns mainGlobals mg → FnOk P w K mg base CX k fa fd [x] sp) (hbind : ∀ (s : Shared) (u : Value), BindsTo s fd ⟨[u], []⟩ [(x, u)])
    (hsp : ∀ H : Hp, Only H → SqL K H a (ns.map V.int) → sp [.ref a] H (fun v _ => v = .bl true) fun _ _ _ => False)
    (hCX : ∀ H e s', CX [] H s₁ (fun _ _ _ => False) e s' → False) :
    codeAny (model P w) callerA (.call (.ref fa) ⟨[.ref a], []⟩) (fun r s' => r = .ok (.ret (.bool true)) ∧ OldK s₁.heap s'.heap ∧ s'.os = s₁.os ∧ AllBare s'.gens) s₁ := by
  have rv := vals_ints hi
  have lenV := hi.length
  -- from an abstract heap in which nothing but the script may be tracked
  have core : ∀ H : Hp, Only H → SqL K H a (ns.map V.int) → HOk P w H s₁.heap → (∀ b, H b ≠ none → b = a) → (H a ≠ none → K.lookup a = none) →
      codeAny (model P w) callerA (.call (.ref fa) ⟨[.ref a], []⟩) (fun r s' => r = .ok (.ret (.bool true)) ∧ OldK s₁.heap s'.heap ∧ s'.os = s₁.os ∧ AllBare s'.gens) s₁ := by
    intro H hO hS hok hA hK
    have base_of : ∀ {b : Addr} {o : Obj}, s₁.heap.get? b = some o → H b = none → (hidT s₁.heap H).get? b = some o := fun e n => hidT_get e n
    have noA : ∀ {b : Addr} {o : Obj} {es : Array DictEntry} {ep : Nat}, s₁.heap.get? b = some o → o.data = .dict es ep → H b = none := fun {b o es ep} e d => by
      cases q : H b with
      | none => rfl
      | some u =>
        have e' : b = a := hA b (by rw [q]; simp)
        subst e'
        rw [ha] at e; cases e
        have d' : Data.seq vs.toArray _ = Data.dict es ep := d
        cases d'
    have nsK : ∀ {b : Addr} {m : Str → Option Value}, s₁.heap.Ns b m → (hidT s₁.heap H).Ns b m := fun {b m} ⟨o, es, ep, e, d, r⟩ => ⟨o, es, ep, base_of e (noA e d), d, r⟩
    have hKb : K.In (hidT s₁.heap H) := fun b o e => base_of (KX b o e) (by
      cases q : H b with
      | none => rfl
      | some u =>
        have e' : b = a := hA b (by rw [q]; simp)
        subst e'
        rw [hK (by rw [q]; simp)] at e; cases e)
    have hM : Mod K mg (hidT s₁.heap H) := ⟨hKb, nsK hns, ⟨mb, nsK hb, hbb⟩, let ⟨mc, h1, h2⟩ := hlim; ⟨mc, nsK h1, h2⟩⟩
    have e0 : Env0 P w K mg (hidT s₁.heap H) callerA [] s₁ H := ⟨rfl, hM, fun b o e => of_hidT e, Nat.le_of_eq (hidT_size _ _), trivial, fun b hb => absurd (show b ∈ ([] : List Addr) from hb) (by simp), hok, .of_eq hg⟩
    refine codeAny_mono ((F _ hKb (nsK hns)).run callerA [] s₁ H ⟨[.ref a], []⟩ [.ref a] [.ref a] _ _ hr e0 (hbind s₁ (.ref a)) (.cons rfl .nil) (hsp H hO hS)) fun r s' h => ?_
    cases r with
    | error e => exact (hCX H e s' h).elim
    | ok fl =>
      cases fl with
      | next => exact False.elim h
      | brk => exact False.elim h
      | cont => exact False.elim h
      | ret u =>
        obtain ⟨v, H', os, bare, un, hok', r', q⟩ := h
        have q' : v = .bl true := q
        subst q'
        obtain rfl : u = Value.bool true := r'
        refine ⟨rfl, OldK.of_keep fun b o e => ?_, os, bare⟩
        cases q : H b with
        | none => exact un.keep b o e q (by intro z; exact absurd (show b ∈ ([] : List Addr) from z) (by simp)) (by simp)
        | some u =>
          rcases hO b with z | ⟨ob, xs, z⟩
          · rw [q] at z; cases z
          · have z2 := un.frzs b ob _ z
            obtain ⟨e1, _⟩ := hok b _ z
            obtain ⟨e2, _⟩ := hok' b _ z2
            rw [e] at e1; cases e1
            exact e2
  cases hk : K.lookup a with
  | some o =>
    -- the script is one of the module's own objects
    have e := KX a o hk
    rw [ha] at e
    cases e
    refine core (fun _ => none) (fun _ => .inl rfl) (.inr ⟨_, vs.toArray, _, hk, rfl, rfl, rfl, by rw [List.size_toArray, lenV]; exact hl, by simpa using rv⟩) (fun b u z => by have z' : (none : Option HO) = some u := z; cases z') (fun b z => absurd rfl z) fun z => absurd rfl z
  | none =>
    refine core (fun b => if b = a then some (.frz { cls := .type "list", data := .seq vs.toArray } (.lst (ns.map V.int))) else none) (fun b => ?_) (.inl (.inr ⟨{ cls := .type "list", data := .seq vs.toArray }, if_pos rfl⟩)) (fun b u z => ?_) (fun b z => ?_) fun _ => hk
    · by_cases hb : b = a
      · exact .inr ⟨_, _, if_pos hb⟩
      · exact .inl (if_neg hb)
    · by_cases hb : b = a
      · have z' := (if_pos hb).symm.trans z
        cases z'
        subst hb
        exact ⟨ha, by rw [List.length_map]; exact hl, vs, _, rv, ha⟩
      · have z' := (if_neg hb).symm.trans z
        cases z'
    · by_cases hb : b = a
      · exact hb
      · exact absurd (if_neg hb) z
end L2

namespace L2
open PySem PySem.Spec PyProof.Rows

theorem walk_of {l : PySem.W.OpenLaw} {n k : Nat} {q : Program} {loose : List Str} {XP : (Str → Option Value) → Heap → Prop} {YP : World → Heap → Prop} {d : DefRec} {K : Params → PySem.W.Frag} {CX : World → CXT} {sp : World → Sp} {x : Str}
    (hn : l.most = some n) (hn2 : n ≤ sizeLine) (hdf : d.params.defaults = []) (hr : Room k callerA)
    (hY : ∀ (w : World) (h : Heap), YP w h → (K w.params).In h)
    (F : ∀ (w : World) (mg : Str → Option Value) (fa : Addr) (h : Heap), (K w.params).In h → h.Ns mainGlobals mg → mg d.name = some (.ref fa) →
      ∃ fd : FuncData, (∀ (s : Shared) (u : Value), BindsTo s fd ⟨[u], []⟩ [(x, u)]) ∧
        ∀ base : Heap, (K w.params).In base → base.Ns mainGlobals mg → FnOk l.prog w (K w.params) mg base (CX w) k fa fd [x] (sp w))
    (hsp : ∀ (w : World) (H : Hp) (a : Addr) (ns : List Int), ns.length ≤ n → Only H → SqL (K w.params) H a (ns.map V.int) → sp w [.ref a] H (fun v _ => v = .bl true) fun _ _ _ => False)
    (hCX : ∀ (w : World) (H : Hp) (s : Shared) (e : Value) (s' : Shared), CX w [] H s (fun _ _ _ => False) e s' → False) :
    PySem.W.WalkO q loose XP YP l.row.toRowW d [] (fun f vs => PySem.call f vs) := by
  refine Att.attach_call hn hdf fun w s₀ s₁ mg mb fa o pm cd doc a vs ns G Y ho hd hcd hmg hobj hints hlen hg => ?_
  have KX := hY w _ Y
  obtain ⟨fd, hb, hF⟩ := F w mg fa _ KX G.T.g hmg
  exact law_call KX G.T.g G.T.b G.T.builtins G.T.nolimit hg hobj hints (Nat.le_trans hlen hn2) hr hF hb (fun H hO hS => hsp w H a ns hlen hO hS) fun H e s' => hCX w H s₁ e s'
end L2

/- THE LAST THEOREM (shape; LID, My.* are yours):
   My.Adr: a structure of the addresses that your layer names (classes, functions); My.Txt K t: a structure (Prop) of the equations over K;
   My.txt_mk : {K} {implicit addresses ..} (e1 : nsIn K mainGlobals "law" = some (some (.ref f))) (e2 : K.lookup f = some ⟨oc, od, .func (fnOf "law" "law" params body scope dV kV doc pm an cdv ct), sl⟩) (e3 : codeIn K cdv "law" = true) .. : ∃ t, My.Txt K t

set_option maxRecDepth 100000 in
set_option maxHeartbeats 0 in
theorem PySem.Challenge.cw_LID_holds : PySem.Challenge.rw_LID.Holds := by
  w_on; o_law; k_head; (case hw => w_witness2)
  k_fill
  refine L2.walk_of (l := PySem.Challenge.rw_LID) (n := 63) (k := 40) (x := "script") (CX := fun w => ..) (sp := fun _ => My.sp_law) rfl (by decide) rfl ⟨rfl, by decide, by decide⟩ (fun w h Y => PySem.W.kIn_of Y) ?F ?S ?C
  case F =>
    intro w mg fa h KX G hmg
    have T : ∃ t, My.Txt (L2.KOf KX) t := by
      dsimp only [L2.KOf]                          -- K must stand as «<heap const> w.params» for k_is
      refine' My.txt_mk ?e1 ?e2 ?e3 ..
      (case e1 => PySem.W.k_is)                    -- in the order: a name -> its address -> its object -> its parts
      (case e2 => PySem.W.k_is)
      ..
    obtain ⟨t, T⟩ := T
    have e0 := hmg.symm.trans (PySem.W.mg_of KX G T.law)
    cases e0                                       -- fa is the law's own address
    exact ⟨_, fun s u => .of_eq rfl, fun base kb nb => My.law_fn T kb nb⟩     -- if «.of_eq rfl» comes too early: refine' ⟨_, ?b, fun base kb nb => My.law_fn T kb nb⟩; exact fun s u => .of_eq rfl
  case S => exact fun w H a ns hl hO hS => ..
  case C => exact ..
(the tactic k_is has no namespace: write k_is) -/

/-! SHORT WORDS over the layer: a def of the text, its body, what a loop and a test want. -/
namespace L2
open PySem PySem.Spec PyProof.Rows

/-! ### the text by places -/
noncomputable def inClass (s : Stmt) (j : Nat) : Stmt := match s with
  | .ClassDef _ _ _ body _ _ _ _ _ _ _ => body.getD j (.Pass ⟨0, 0, 0, 0⟩)
  | _ => .Pass ⟨0, 0, 0, 0⟩
noncomputable def defArgs (s : Stmt) : Arguments := match s with
  | .FunctionDef _ a _ _ _ _ _ _ _ _ => a
  | _ => { posonlyargs := [], args := [], vararg := none, kwonlyargs := [], kw_defaults := [], kwarg := none, defaults := [] }
noncomputable def defBody (s : Stmt) : List Stmt := match s with
  | .FunctionDef _ _ b _ _ _ _ _ _ _ => b
  | _ => []
noncomputable def defScope (s : Stmt) : Scope := match s with
  | .FunctionDef _ _ _ _ _ _ sc _ _ _ => sc
  | _ => { kind := .function, names := [], isGenerator := false, isCoroutine := false }

/-! ### no exception leaves a def -/
noncomputable abbrev CX0 : CXT := fun _ _ _ _ _ _ => False
noncomputable abbrev E0 : XK := fun _ _ _ => False
theorem pass0 {X : Cx} : Passes CX0 X E0 := fun _ _ _ _ _ _ _ h => h.elim

/-! ### a def (or method) of the text as it stands behind the top -/
structure Fun (K : PySem.W.Frag) (x qual : Str) (st : Stmt) (f : Addr) (fd : FuncData) : Prop where
  ex : ∃ (oc : Value) (od : Option Addr) (kV doc pm : Value) (an : Option Addr) (cdv ct : Value) (osl : Array (Option Value)),
    fd = PySem.W.fnOf x qual (defArgs st) (defBody st) (defScope st) .none kV doc pm an cdv ct ∧ K.lookup f = some ⟨oc, od, .func fd, osl⟩ ∧ PySem.W.codeIn K cdv qual = true
  kp : PySem.W.keepIn K (.ref f) = true
section
variable {P : Program} {w : World} {K : PySem.W.Frag} {mg : Str → Option Value} {base : Heap}
theorem Fun.ok {x qual : Str} {st : Stmt} {f : Addr} {fd : FuncData} {N ps : List Str} {k : Nat} {sp : Sp} (F : Fun K x qual st f fd) (S : FnScope N ps (defScope st)) (len : ∀ vs H Q E, sp vs H Q E → vs.length = ps.length)
    (hbody : ∀ (cdv : Value) (A : Around) (outer : List Env) (s : Shared) (H : Hp) (vs : List V) (Q : VK) (E : XK), Room k (A.deeper (envOfC qual (defScope st) s.heap.objs.size f cdv)) → sp vs H Q E →
      ∃ t, PSs (cxOf CX0 P w K mg base N qual (defScope st) f cdv A outer s H E).nox (defBody st) t ∧ t { nx := fun _ H' => Q .non H', rt := Q } (start N vs) H) : FnOk P w K mg base CX0 (k + 1) f fd ps sp := by
  obtain ⟨oc, od, kV, doc, pm, an, cdv, ct, osl, rfl, lk, hcd⟩ := F.ex
  refine fn_of lk hcd S len fun A outer s H vs Q E hr hsp => ?_
  obtain ⟨t, h, q⟩ := hbody cdv A outer s H vs Q E hr hsp
  exact ⟨t, h.nox, q⟩
theorem Fun.binds {x qual : Str} {st : Stmt} {f : Addr} {fd : FuncData} {ps : List Str} (F : Fun K x qual st f fd)
    (h : ∀ (kV doc pm : Value) (an : Option Addr) (cdv ct : Value) (us : List Value), us.length = ps.length → bindArgs (PySem.W.fnOf x qual (defArgs st) (defBody st) (defScope st) .none kV doc pm an cdv ct) ⟨us, []⟩ = pure (ps.zip us)) : Binds K fd ps [] := by
  obtain ⟨oc, od, kV, doc, pm, an, cdv, ct, osl, rfl, lk, hcd⟩ := F.ex
  exact .all (h kV doc pm an cdv ct)
theorem fun_mk {x qual : Str} {st : Stmt} {f : Addr} {oc : Value} {od an : Option Addr} {osl : Array (Option Value)} {kV doc pm cdv ct : Value} (l : K.lookup f = some ⟨oc, od, .func (PySem.W.fnOf x qual (defArgs st) (defBody st) (defScope st) .none kV doc pm an cdv ct), osl⟩)
    (c : PySem.W.codeIn K cdv qual = true) (k : PySem.W.keepIn K (.ref f) = true) : Fun K x qual st f (PySem.W.fnOf x qual (defArgs st) (defBody st) (defScope st) .none kV doc pm an cdv ct) := ⟨⟨oc, od, kV, doc, pm, an, cdv, ct, osl, rfl, l, c⟩, k⟩
end
theorem small1000 {n : Nat} (h : n ≤ 1000) : n < sizeLine := Nat.lt_of_le_of_lt h (by decide)

/-! ### expressions in short: the name that stands in the i-th slot -/
section
variable {X : Cx}
theorem pv (i : Nat) {x : Str} {pos : Pos} (hN : X.N[i]? = some x := by rfl) (hv : Vis X.env.scope x := by first | exact Or.inl rfl | exact Or.inr (Or.inl rfl) | exact Or.inr (Or.inr rfl)) (hd : (x == ("__debug__" : Str)) = false := by decide)
    (hcd : (x == ("__classdict__" : Str)) = false := by decide) : PE X (.Name x pos) (tVar i) := pe_var hN hv hd hcd
end

/-! ### tests -/
theorem iteF {A B : Prop} (h : B) : if false = true then A else B := by
  rw [if_neg Bool.false_ne_true]
  exact h
theorem iteT {A B : Prop} (h : A) : if true = true then A else B := by
  rw [if_pos rfl]
  exact h
/-! ### heaps -/
noncomputable def Same (H H' : Hp) : Prop := ∀ b o, H b = some o → H' b = some o
theorem Same.trans {H H1 H2 : Hp} (a : Same H H1) (b : Same H1 H2) : Same H H2 := fun c o h => b c o (a c o h)
theorem Same.free {H H' : Hp} (e : Same H H') {l : Addr} (h : H' l = Option.none) : H l = Option.none := by
  cases q : H l with
  | none => rfl
  | some o =>
    rw [e l o q] at h
    cases h
theorem Same.seq {K : PySem.W.Frag} {H H' : Hp} {a : Addr} {xs : List V} (e : Same H H') (h : SqL K H a xs) : SqL K H' a xs := by
  rcases h with (h | ⟨o, h⟩) | h
  · exact .inl (.inl (e _ _ h))
  · exact .inl (.inr ⟨o, e _ _ h⟩)
  · exact .inr h

section
variable {X : Cx}
end
section
variable {κ : Type} [DecidableEq κ]
end
end L2

set_option Elab.async false
set_option linter.all false
set_option maxRecDepth 100000
set_option maxHeartbeats 4000000
/-! Own rules, low part: the stages of an exception within a frame; its dict is known throughout. -/
namespace L2
open PySem

theorem dict_mapFields (o : Obj) (f) : (o.mapFields f).dict = o.dict := by
  obtain ⟨c, d, dt, sl⟩ := o
  cases dt <;> rfl
noncomputable def TrD (B : Heap) (ea : Addr) (cls a0 fl : Value) (dd : Option Addr) (h : Heap) : Prop :=
  ∃ oe vs T oT ts, h.get? ea = some oe ∧ (oe.cls = cls ∧ vs[0]? = some a0 ∧ oe.dict = dd) ∧ oe.data = .fields vs ∧ vs[1]? = some (.ref T) ∧ B.get? T = none ∧ T ≠ ea ∧ h.get? T = some oT ∧ oT.data = .fields ts ∧ ts[3]? = some fl
noncomputable def Stg (B : Heap) (L ea : Addr) (cls a0 : Value) (dd : Option Addr) (h : Heap) : Prop :=
  (∃ oe vs, h.get? ea = some oe ∧ (oe.cls = cls ∧ oe.dict = dd) ∧ oe.data = .fields vs ∧ vs[0]? = some a0 ∧ vs[1]? = some .none) ∨ TrD B ea cls a0 .none dd h ∨ TrD B ea cls a0 (rawInt L) dd h
section
variable {M : Model} {A : Around} {E : Value → Shared → Prop} {s : Shared} {B : Heap} {env : Env} {outer l : List Env} {L ea : Addr} {cls a0 fl : Value} {dd : Option Addr} {Q : Unit → Shared → Prop}
theorem entryD {oe : Obj} {vs : Array Value} {head : Value} {hadNext : Bool}
    (hfr : A.frames = some (env :: outer)) (hl : s.heap.FunFrames B (env :: outer)) (hf : env.frame = some L)
    (he : s.heap.get? ea = some oe) (hkb : B.StaysIn s.heap) (hen : B.get? ea = none) (hd : oe.data = .fields vs) (hsz : 1 < vs.size) (h0 : vs[0]? = some a0)
    (h : ∀ h', B.StaysIn h' → h'.FunFrames B (env :: outer) → TrD B ea oe.cls a0 (rawInt L) oe.dict h' → s.heap.UpToSlots h' → Q () { s with heap := h' }) :
    wpAny M A (do let a ← frameOf env; let pl ← entryPlaceOf L hadNext; let b ← EntryCells.newEntry head a .none (rawInt L) .none pl; setField (.ref ea) 1 b) Q E s := by
  have hene : ea ∉ (env :: outer).filterMap (·.frame) := fun hm => by
    obtain ⟨_, o, ho, hnf⟩ := hl.mem hm
    rw [he] at ho; injection ho with ho; subst ho; exact hnf vs hd
  refine wpAny_bind (wpAny_frameOf_fun hfr hl hf fun h₁ hs₁ => ?_)
  refine wpAny_bind (wpAny_entryPlaceOf fun pl hpl => ?_)
  unfold EntryCells.newEntry newFields
  refine wpAny_bind (wpAny_newObj_type ?_ (hpl.sizeOk5 _ _ _ _ _))
  have he₁ : h₁.get? ea = some oe := (hs₁.2.1 ea hene).trans he
  have kb₁ : B.StaysIn h₁ := fun b o hbo => (hs₁.2.1 b fun hm => by rw [(hl.mem hm).1] at hbo; cases hbo).trans (hkb b o hbo)
  have he₂ := Heap.get?_push_of_some (h := h₁) { cls := .type "traceback", dict := none, data := .fields ([head, .ref L, .none, rawInt L, .none] ++ (if pl.isEmpty then List.replicate 6 Value.none else pl)).toArray } he₁
  have hTe : h₁.objs.size ≠ ea := Nat.ne_of_gt (Heap.lt_size he₁)
  have hd₃ := Obj.data_mapFields hd (·.setIfInBounds 1 (Value.ref h₁.objs.size))
  have he₃ := Heap.get?_update_self (Obj.mapFields (·.setIfInBounds 1 (Value.ref h₁.objs.size))) he₂ (Obj.isFreed_of_fields hd₃)
  have hT₃ := (Heap.get?_update_other (h₁.push { cls := .type "traceback", dict := none, data := .fields ([head, .ref L, .none, rawInt L, .none] ++ (if pl.isEmpty then List.replicate 6 Value.none else pl)).toArray })
    (Obj.mapFields (·.setIfInBounds 1 (Value.ref h₁.objs.size))) (Ne.symm hTe)).trans (Heap.get?_push_size h₁ rfl)
  have keep : ∀ b o, b ≠ ea → h₁.get? b = some o →
      ((h₁.push { cls := .type "traceback", dict := none, data := .fields ([head, .ref L, .none, rawInt L, .none] ++ (if pl.isEmpty then List.replicate 6 Value.none else pl)).toArray }).update ea (Obj.mapFields (·.setIfInBounds 1 (Value.ref h₁.objs.size)))).get? b = some o :=
    fun b o hbe hb => by
      rw [Heap.get?_update_other _ _ (Ne.symm hbe)]
      exact Heap.get?_push_of_some _ hb
  have noRecord : ∀ b o, s.heap.get? b = some o → (∀ vs, o.data ≠ .fields vs) → b ≠ ea := fun b o hb hnf q => by
    rw [q, he] at hb; injection hb with hb; subst hb; exact hnf vs hd
  refine wpAny_setField he₂ hd hsz (h _ (fun b o hbo => keep b o (fun q => by rw [q, hen] at hbo; cases hbo) (kb₁ b o hbo)) (hl.of_keeps fun b o hb hnf => ?_) ?_ fun b o hb hnf => ?_)
  · obtain ⟨sl, hs⟩ := hs₁.2.2 b o hb
    exact ⟨_, keep b _ (noRecord b o hb hnf) hs, rfl⟩
  · exact ⟨_, _, h₁.objs.size, _, _, he₃, ⟨Obj.cls_mapFields _ _, by rw [Array.getElem?_setIfInBounds_ne (by decide)]; exact h0, dict_mapFields _ _⟩, hd₃, by simp [hsz], kb₁.fresh, hTe, hT₃, rfl, by first | (simp; done) | (rcases hpl with rfl | ⟨_, _, _, _, _, _, _, rfl⟩ <;> simp)⟩
  · obtain ⟨sl, hs⟩ := hs₁.2.2 b o hb
    exact ⟨sl, keep b _ (noRecord b o hb hnf) hs⟩
theorem note_stg (hfr : A.frames = some (env :: outer)) (hl : s.heap.FunFrames B (env :: outer)) (hf : env.frame = some L) (hk : B.StaysIn s.heap) (hen : B.get? ea = none) (st : Stg B L ea cls a0 dd s.heap)
    (h : ∀ h', B.StaysIn h' → h'.FunFrames B (env :: outer) → TrD B ea cls a0 (rawInt L) dd h' → s.heap.UpToSlots h' → Q () { s with heap := h' }) : wpAny M A (noteFrame (.ref ea) env) Q E s := by
  rcases st with ⟨oe, vs, he, ⟨hc, hdd⟩, hd, h0, h1⟩ | ⟨oe, vs, T, oT, ts, he, ⟨hc, h0, hdd⟩, hd, h1, hnT, hTe, hT, hdT, h3⟩ | ht
  · subst hc hdd
    unfold noteFrame
    simp only [hf]
    refine wpAny_bind (wpAny_field he hd h1 ?_)
    rw [if_neg (by decide)]
    exact entryD hfr hl hf he hk hen hd (Array.getElem?_eq_some_iff.mp h1).1 h0 h
  · subst hc hdd
    unfold noteFrame
    simp only [hf]
    refine wpAny_bind (wpAny_field he hd h1 ?_)
    rw [if_pos (show (Value.ref T != Value.none) = true from by simp)]
    refine wpAny_bind (wpAny_field hT hdT h3 ?_)
    rw [if_neg (show ¬ ((Value.none == rawInt L) = true) from by simp [rawInt])]
    refine wpAny_bind (wpAny_setField hT hdT (Array.getElem?_eq_some_iff.mp h3).1 ?_)
    have other : ∀ b, b ≠ T → (s.heap.update T (Obj.mapFields (·.setIfInBounds 3 Value.none))).get? b = s.heap.get? b := fun b hb => Heap.get?_update_other _ _ (Ne.symm hb)
    have noRecord : ∀ b o, s.heap.get? b = some o → (∀ vs, o.data ≠ .fields vs) → b ≠ T := fun b o hb hnf q => by
      rw [q, hT] at hb; injection hb with hb; subst hb; exact hnf ts hdT
    refine entryD hfr (hl.of_keeps fun b o hb hnf => ⟨o, (other b (noRecord b o hb hnf)).trans hb, rfl⟩) hf ((other ea (Ne.symm hTe)).trans he)
      (fun b o hbo => (other b fun q => by rw [q, hnT] at hbo; cases hbo).trans (hk b o hbo)) hen hd (Array.getElem?_eq_some_iff.mp h1).1 h0
      fun h' x1 x2 x3 x4 => h h' x1 x2 x3 fun b o hb hnf => x4 b o ((other b (noRecord b o hb hnf)).trans hb) hnf
  · obtain ⟨oe, vs, T, oT, ts, he, hcls, hd, h1, hnT, hTe, hT, hdT, h3⟩ := id ht
    unfold noteFrame
    simp only [hf]
    refine wpAny_bind (wpAny_field he hd h1 ?_)
    rw [if_pos (show (Value.ref T != Value.none) = true from by simp)]
    refine wpAny_bind (wpAny_field hT hdT h3 ?_)
    rw [if_pos (show (rawInt L == rawInt L) = true from by simp)]
    exact wpAny_pure (h s.heap hk hl ht (.refl _))
theorem set_flight {o : Option Addr} (hkb : B.StaysIn s.heap) (hl : s.heap.FunFrames B l) (ht : TrD B ea cls a0 fl dd s.heap)
    (h : ∀ h', B.StaysIn h' → h'.FunFrames B l → TrD B ea cls a0 (o.elim Value.none fun f => rawInt f) dd h' → s.heap.UpToSlots h' → Q () { s with heap := h' }) :
    wpAny M A (setFlight (.ref ea) o) Q E s := by
  obtain ⟨oe, vs, T, oT, ts, he, hcls, hd, h1, hnT, hTe, hT, hdT, h3⟩ := ht
  have hsz3 : 3 < ts.size := (Array.getElem?_eq_some_iff.mp h3).1
  have other : ∀ b, b ≠ T → (s.heap.update T (Obj.mapFields (·.setIfInBounds 3 (o.elim Value.none fun f => rawInt f)))).get? b = s.heap.get? b :=
    fun b hb => Heap.get?_update_other _ _ (Ne.symm hb)
  have noRecord : ∀ b o, s.heap.get? b = some o → (∀ vs, o.data ≠ .fields vs) → b ≠ T := fun b o hb hnf q => by
    rw [q, hT] at hb; injection hb with hb; subst hb; exact hnf ts hdT
  unfold setFlight
  refine wpAny_bind (wpAny_field he hd h1 ?_)
  rw [if_pos (show (Value.ref T != Value.none) = true from by simp)]
  refine wpAny_setField hT hdT hsz3 (h _ (fun b o hbo => (other b fun q => by rw [q, hnT] at hbo; cases hbo).trans (hkb b o hbo))
    (hl.of_keeps fun b o hb hnf => ⟨o, (other b (noRecord b o hb hnf)).trans hb, rfl⟩) ?_ fun b o hb hnf => ⟨o.slots, (other b (noRecord b o hb hnf)).trans hb⟩)
  exact ⟨oe, vs, T, _, _, (other ea (Ne.symm hTe)).trans he, hcls, hd, h1, hnT, hTe, Heap.get?_update_self _ hT (Obj.isFreed_of_fields (Obj.data_mapFields hdT _)), Obj.data_mapFields hdT _, by simp [hsz3]⟩
theorem came_back (hf : env.frame = some L) (hkb : B.StaysIn s.heap) (hl : s.heap.FunFrames B l) (ht : TrD B ea cls a0 fl dd s.heap)
    (h : ∀ h', B.StaysIn h' → h'.FunFrames B l → TrD B ea cls a0 (rawInt L) dd h' → s.heap.UpToSlots h' → E (.ref ea) { s with heap := h' }) : cameBackBy M A env E (.ref ea) s := by
  obtain ⟨oe, vs, T, oT, ts, he, hcls, hd, h1, hnT, hTe, hT, hdT, h3⟩ := id ht
  unfold cameBackBy
  refine wpAny_bind (wpAny_field he hd h1 ?_)
  rw [if_neg (show ¬ ((Value.ref T == Value.none) = true) from by simp)]
  rw [hf]
  exact set_flight (o := some L) hkb hl ht fun h' x1 x2 x3 x4 => h h' x1 x2 x3 x4
end

section
variable {M : Model} {A : Around} {E : Value → Shared → Prop}
variable {nm q nm2 q2 : Str} {C N D N2 : Addr} {bs bm bs2 bm2 : List Value} {hdct hdct2 : Bool} {sn sn2 : List Str} {sub sub2 : List Value} {ab ab2 : Bool} {col col2 : Option Bool} {dd dd2 : Option Addr} {k0 k1 k2 k3 k5 j0 j1 j2 j3 j5 : Option Value} {newId newId2 : String}
theorem excMatches_own {h : Heap} {g : Array GenState} {d : Drawn} {t : Nat} {os : OsState} {e : Addr} {oe : Obj} {Q : Bool → Shared → Prop}
    (hC : h.get? C = some (excClassObj nm q C N bs bm hdct sn sub ab col dd k0 k1 k2 k3 k5 newId)) (hD : h.get? D = some (excClassObj nm2 q2 D N2 bs2 bm2 hdct2 sn2 sub2 ab2 col2 dd2 j0 j1 j2 j3 j5 newId2))
    (he : h.get? e = some oe) (hcls : oe.cls = .ref C) (hbase : bm2.contains (.type "BaseException") = true)
    (hq : Q ((Value.ref C :: bm).contains (.ref D)) ⟨h, g, d, t, os⟩) : wpAny M A (excMatches (.ref e) (.ref D)) Q E ⟨h, g, d, t, os⟩ := by
  have hcB : (Value.ref D :: bm2).contains (.type "BaseException") = true := by rw [List.contains_cons, hbase, Bool.or_true]
  have f := tc_notTuple
  unfold excMatches
  repeat (first | (with_reducible refine wpAny_loadPart_at he ?_; rw [hcls]) | with_reducible refine wpAny_loadPart_at hD ?_ | with_reducible refine wpAny_loadPart_at hC ?_ | (with_reducible refine wpAny_isSubtype_exc hD ?_; rw [hcB]) | with_reducible refine wpAny_isSubtype_exc hC ?_ | wp_step)
  generalize (Value.ref C :: bm).contains (.ref D) = b at hq ⊢
  cases b <;> (wp_walk; exact hq)
end
end L2

set_option Elab.async false
set_option linter.all false
set_option maxRecDepth 100000
set_option maxHeartbeats 4000000
/-! Own rules, low part 2: t > u of tuples of ints; max over a list of such tuples. -/
namespace L2
open PySem PyProof.Rows
section
open PySem.SeqAt
open PySem.AutoSeq1 (wpAny_loadPart')
open PySem.MeetsSeq PySem.MeetsSeq2 PySem.MeetsSeq3
end
section
variable {prog : Program} {w : World} {A : Around} {E : Value → Shared → Prop} {s : Shared}
end
/-! max where the comparison looks at things that stand -/
section
variable {prog : Program} {w : World} {A : Around} {R : Result → Shared → Prop} {I : Addr} {fp wr : List Addr} {n : Nat} {P : Nat → Value → Prop} {St : Nat → Heap → Prop} {G : Heap}
end
section
variable {prog : Program} {w : World} {A : Around} {E : Value → Shared → Prop} {s : Shared}
end
end L2

set_option Elab.async false
set_option linter.all false
set_option maxRecDepth 100000
set_option maxHeartbeats 4000000
/-! Own rules over the hand layer, part 1: cuts, tests, max, min, sum of a list of ints, isinstance. -/
namespace L2
open PySem PySem.Spec PyProof.Rows

/-! cuts: a middle assertion behind a statement, behind an expression -/
noncomputable def tCut (t : TS) : TS := fun D σ H => ∃ P : St → Hp → Prop, t { D with nx := P } σ H ∧ ∀ σ' H', P σ' H' → D.nx σ' H'
noncomputable def tCutE (t : TE) : TE := fun σ H Q => ∃ P : VK, t σ H P ∧ ∀ v H', P v H' → Q v H'
section
variable {X : Cx} {st : Stmt} {sts : List Stmt} {t : TS} {e : Expr} {te : TE}
theorem SP.weak {pins : List (Addr × Obj)} {D : Ends} {P : St → Hp → Prop} {f : Flow} {s' : Shared} (w : ∀ σ' H', P σ' H' → D.nx σ' H') (h : SP X pins { D with nx := P } f s') : SP X pins D f s' := by
  cases f with
  | next => obtain ⟨σ', H', I, q⟩ := h; exact ⟨σ', H', I, w _ _ q⟩
  | brk => exact h
  | cont => exact h
  | ret u => exact h
theorem ps_cut (h : PS X st t) : PS X st (tCut t) := fun pins s σ H D I ⟨P, q, w⟩ => thn (h pins s σ H _ I q) fun _ _ z => z.weak w
theorem pe_cut (h : PE X e te) : PE X e (tCutE te) := fun pins s σ H Q I ⟨P, q, w⟩ => thn (h pins s σ H P I q) fun _ _ ⟨v, H', I', r, z⟩ => ⟨v, H', I', r, w _ _ z⟩
end

/-! tests -/
theorem itY {c A B : Prop} [Decidable c] (hc : c) (h : A) : if decide c = true then A else B := by rw [decide_eq_true hc]; exact iteT h
theorem itN {c A B : Prop} [Decidable c] (hc : ¬ c) (h : B) : if decide c = true then A else B := by rw [decide_eq_false hc]; exact iteF h
theorem it2 {c A B : Prop} [Decidable c] (h1 : c → A) (h2 : ¬ c → B) : if decide c = true then A else B := by
  by_cases hc : c
  · exact itY hc (h1 hc)
  · exact itN hc (h2 hc)
theorem ntY {c A B : Prop} [Decidable c] (hc : ¬ c) (h : A) : if (!decide c) = true then A else B := by rw [decide_eq_false hc]; exact iteT h
theorem ntN {c A B : Prop} [Decidable c] (hc : c) (h : B) : if (!decide c) = true then A else B := by rw [decide_eq_true hc]; exact iteF h
theorem nt2 {c A B : Prop} [Decidable c] (h1 : ¬ c → A) (h2 : c → B) : if (!decide c) = true then A else B := by
  by_cases hc : c
  · exact ntN hc (h2 hc)
  · exact ntY hc (h1 hc)
theorem intNe {i j : Int} (h : i ≠ j) : ¬ V.int i = V.int j := fun e => h (V.int.inj e)
theorem intEq {i j : Int} (h : i = j) : V.int i = V.int j := congrArg V.int h
theorem V.intInj {i j : Int} (h : V.int i = V.int j) : i = j := V.int.inj h

/-! heaps -/
theorem Same.new {H : Hp} {p : Addr} (h : H p = none) (o : HO) : Same H (upd H p o) := fun b u q => by rw [upd_ne (ne_of_none q h)]; exact q
theorem Same.tup {K : PySem.W.Frag} {H H' : Hp} {a : Addr} {xs : List V} (e : Same H H') (h : SqT K H a xs) : SqT K H' a xs := by
  rcases h with (h | ⟨o, h⟩) | h
  · exact .inl (.inl (e _ _ h))
  · exact .inl (.inr ⟨o, e _ _ h⟩)
  · exact .inr h
/-! max, min, sum of a list of ints -/
section
variable {X : Cx}
theorem call_maxL (hc : X.calm = true) : CallR X (.builtin "max") (fun xs H Q => ∃ (p : Addr) (ns : List Int), xs = [.ref p] ∧ SqL X.K H p (ns.map V.int) ∧ 0 < ns.length ∧ ∀ M, M ∈ ns → (∀ a ∈ ns, a ≤ M) → Q (.int M) H) := by
  intro pins s σ H xs us Q I r h
  obtain ⟨p, ns, rfl, hp, hne, q⟩ := h
  obtain ⟨u, rfl, ru⟩ := vals1 r
  cases ru
  obtain ⟨its, rv, pl, hz⟩ := I.list hp
  have hi := intsAre_of rv
  have hl := pl.isList
  obtain ⟨xs, e⟩ := hi.allInts.items
  have hns : ns = xs.toList.map (·.1) := by
    rw [← hi.numsOf, ← nums_intItems, ← e]
  have hsz : 0 < xs.size := by
    have h3 := hne; rw [hns, List.length_map, Array.length_toList] at h3; exact h3
  rw [e] at hl
  refine max_intList (I.ok.hd hc) hl hsz fun v h' tk hv hk => ?_
  obtain ⟨t, rfl⟩ := intItems_at hv
  obtain ⟨h1, h2⟩ := argBest_gt (numAt xs) (xs.size - 1)
  refine ⟨.int _, H, I.kept hk, ⟨t, rfl⟩, q _ ?_ fun a ha => ?_⟩
  · rw [hns, numAt_eq]; exact getD_mem (by rw [List.length_map, Array.length_toList]; omega)
  · rw [hns] at ha
    obtain ⟨j, hj, rfl⟩ := mem_getD ha
    rw [List.length_map, Array.length_toList] at hj
    rw [← numAt_eq]; exact h2 j (by omega)
theorem call_isT : CallR X (.builtin "isinstance") (fun xs H Q => ∃ (x : V) (c : String) (t : Value) (b : Bool), xs = [x, .ty c] ∧ TyOf X.K H x t ∧ PySem.W.kitOne X.K t (.type c) = some b ∧ Q (.bl b) H) := by
  intro pins s σ H xs us Q I r h
  obtain ⟨x, c, t, b, rfl, ty, e, q⟩ := h
  obtain ⟨u, w', rfl, rx, rc⟩ := vals2 r
  cases (show w' = Value.type c from rc)
  exact isinst_ok I rx ty e fun tk => ⟨.bl b, H, I.tok tk, rfl, q⟩
end
end L2

set_option Elab.async false
set_option linter.all false
set_option maxRecDepth 100000
set_option maxHeartbeats 4000000
/-! Own rules over the hand layer, part 2: errors of own classes: raise, calls that raise, try .. except .. as. -/
namespace L2
open PySem PySem.Spec PyProof.Rows

theorem ObjOk.there {P : Program} {w : World} {H : Hp} {h : Heap} {a : Addr} {o : HO} (x : ObjOk P w H h a o) : ∃ ob, h.get? a = some ob := by
  cases o with
  | lst xs => obtain ⟨_, _, _, _, e⟩ := x; exact ⟨_, e⟩
  | tup xs => obtain ⟨_, _, _, ob, e, _⟩ := x; exact ⟨_, e⟩
  | dK kvs => obtain ⟨_, _, _, _, o, _, _, e, _⟩ := x; exact ⟨_, e⟩
  | dT kvs => obtain ⟨_, _, _, _, o, _, _, e, _⟩ := x; exact ⟨_, e⟩
  | set S n => obtain ⟨o, _, _, _, e, _⟩ := x; exact ⟨_, e⟩
  | ins C dx fs => obtain ⟨_, _, _, e, _⟩ := x; exact ⟨_, e⟩
  | own y => obtain ⟨_, e⟩ := x; exact ⟨_, e⟩
  | xd fs => obtain ⟨_, ⟨_, _, _, e, _⟩, _⟩ := x; exact ⟨_, e⟩
  | rng lo hi => obtain ⟨_, _, _, e⟩ := x; exact ⟨_, e⟩
  | frz ob u => obtain ⟨e, _⟩ := x; exact ⟨_, e⟩
  | tbl ps => exact ⟨_, (show h.get? a = some _ from x)⟩
  | met f y => exact ⟨_, (show h.get? a = some _ from x)⟩
  | ext φ => obtain ⟨_, e, _⟩ := x; exact e
theorem HOk.trk {P : Program} {w : World} {H : Hp} {h h' : Heap} (x : HOk P w H h) (k : ∀ b u, H b ≠ none → h.get? b = some u → h'.get? b = some u) : HOk P w H h' := fun a o e =>
  (x a o e).stay (fun b u hb q => k b u (by
    rcases hb with z | z
    · rw [z, e]; simp
    · rw [z]; simp) q) (fun _ q => q) fun _ _ q => q

structure Own (X : Cx) : Prop where
  stk : X.stack = X.env :: X.outer
  fr : X.env.frame = some X.env.locals
  ex : X.ex = []
noncomputable def Kept (X : Cx) (pins : List (Addr × Obj)) (H : Hp) (b : Addr) : Prop := H b ≠ none ∨ (X.s₀.heap.get? b ≠ none ∧ b ∉ X.fs) ∨ ∃ p ∈ X.pn ++ pins, p.1 = b
section
variable {X : Cx} {pins : List (Addr × Obj)} {σ : St} {H : Hp} {s : Shared} {h' : Heap} {b : Addr}
theorem some_of_ne {α : Type} {o : Option α} (h : o ≠ none) : ∃ x, o = some x := by
  cases o with
  | none => exact absurd rfl h
  | some x => exact ⟨x, rfl⟩
theorem Kept.there (I : Inv X pins σ H s) (own : Own X) (k : Kept X pins H b) : (∃ o, s.heap.get? b = some o) ∧ b ∉ frs X.stack := by
  have hs : frs X.stack = X.env.locals :: X.fs := by
    unfold frs Cx.fs
    rw [own.stk, List.filterMap_cons, own.fr]
    rfl
  rcases k with k | ⟨k1, k2⟩ | ⟨p, hp, rfl⟩
  · obtain ⟨o, e⟩ := some_of_ne k
    exact ⟨(I.hok b o e).there, fun z => k (I.stkFree b z)⟩
  · obtain ⟨o, e⟩ := some_of_ne k1
    refine ⟨I.base.there b o e (by rw [own.ex]; simp), fun z => ?_⟩
    rw [hs] at z
    rcases List.mem_cons.mp z with z | z
    · exact absurd (Nat.lt_of_lt_of_le (Heap.lt_size e) I.ok.above) (by rw [z]; exact Nat.lt_irrefl _)
    · exact k2 z
  · obtain ⟨e, n, ne, nf, d⟩ := I.pin p hp
    refine ⟨⟨_, e⟩, fun z => ?_⟩
    rw [hs] at z
    rcases List.mem_cons.mp z with z | z
    · exact ne z
    · exact nf z
theorem cellUp {h h' : Heap} (up : h.UpToSlots h') {c : Addr} {v : Option Value} (z : h.IsCell c v) : h'.IsCell c v := by
  obtain ⟨o, e, d⟩ := z
  obtain ⟨sl, e2⟩ := up c o e fun vs q => by rw [d] at q; cases q
  exact ⟨_, e2, d⟩
theorem Inv.aloft (I : Inv X pins σ H s) (own : Own X) (ks : ∀ b o, s.heap.get? b = some o → Kept X pins H b → h'.get? b = some o) (up : s.heap.UpToSlots h') : Inv X pins σ H { s with heap := h' } := by
  have frm : ∀ b, b ∈ X.fs → ∀ o, s.heap.get? b = some o → ∃ sl, h'.get? b = some { o with slots := sl } := fun b hb o e => by
    have hm : b ∈ X.stack.filterMap (·.frame) := by
      rw [own.stk, List.filterMap_cons, own.fr]
      exact List.mem_cons_of_mem _ hb
    obtain ⟨_, o', e', nf⟩ := I.stack.mem hm
    rw [e] at e'
    cases e'
    exact up b o e nf
  refine ⟨I.ok, I.os, I.bare, ⟨fun b o e n hb hx => ?_, fun b o e n hb hx => ?_, I.base.free, fun b o e hx => ?_, I.base.tups, I.base.frzs, I.base.tbls⟩, ?_, fun x c e => ?_, I.free, I.freeC, fun p hp => ?_, ?_, I.len⟩
  · exact ks b o (I.base.keep b o e n hb hx) (.inr (.inl ⟨by rw [e]; simp, hb⟩))
  · obtain ⟨sl, e1⟩ := I.base.slot b o e n hb hx
    obtain ⟨sl', e2⟩ := frm b hb _ e1
    exact ⟨sl', e2⟩
  · obtain ⟨o', e1⟩ := I.base.there b o e hx
    by_cases hb : b ∈ X.fs
    · obtain ⟨sl, e2⟩ := frm b hb _ e1
      exact ⟨_, e2⟩
    · exact ⟨o', ks b o' e1 (.inr (.inl ⟨by rw [e]; simp, hb⟩))⟩
  · obtain ⟨m, hn, hl⟩ := I.loc
    refine ⟨m, up.ns hn, fun i x v e1 e2 e3 => ?_⟩
    obtain ⟨u, r, l⟩ := hl i x v e1 e2 e3
    refine ⟨u, r, ?_⟩
    rcases l with l | ⟨k, c, e, z⟩
    · exact .inl l
    · exact .inr ⟨k, c, e, cellUp up z⟩
  · obtain ⟨v, z⟩ := I.cell x c e
    exact ⟨v, cellUp up z⟩
  · obtain ⟨e, n, ne, nf, d⟩ := I.pin p hp
    exact ⟨ks p.1 p.2 e (.inr (.inr ⟨p, hp, rfl⟩)), n, ne, nf, d⟩
  · exact I.hok.trk fun b u hb q => ks b u q (.inl hb)
end

noncomputable def Aloft (X : Cx) (pins : List (Addr × Obj)) (H : Hp) (B : Heap) (ea : Addr) (h : Heap) : Prop :=
  B.StaysIn h ∧ B.get? ea = none ∧ h.FunFrames B X.stack ∧ ∀ b o, h.get? b = some o → Kept X pins H b → B.get? b = some o
noncomputable def InFl (X : Cx) (pins : List (Addr × Obj)) (σ : St) (E : XK) (x : Value) (s' : Shared) : Prop :=
  ∃ (ea : Addr) (cls a0 : Value) (dd : Option Addr) (H' : Hp) (B : Heap), x = .ref ea ∧ E cls dd H' ∧ Inv X pins σ H' s' ∧ Aloft X pins H' B ea s'.heap ∧ Stg B X.env.locals ea cls a0 dd s'.heap
noncomputable def InFn (X : Cx) (E : XK) (x : Value) (s' : Shared) : Prop := ∃ pins σ, InFl X pins σ E x s'
structure Fly (P : Program) (w : World) (outer : List Env) (H : Hp) (s : Shared) (H' : Hp) (ea : Addr) (cls : Value) (dd : Option Addr) (s' : Shared) : Prop where
  os : s'.os = s.os
  bare : AllBare s'.gens
  un : Un (frs outer) [] H H' s.heap s'.heap
  hok : HOk P w H' s'.heap
  fl : ∃ (B : Heap) (a0 : Value), (B.StaysIn s'.heap ∧ B.get? ea = none ∧ s'.heap.FunFrames B outer ∧ TrD B ea cls a0 .none dd s'.heap) ∧ (∀ b o, s'.heap.get? b = some o → H' b ≠ none → B.get? b = some o) ∧ ∀ b o, s'.heap.get? b = some o → s.heap.get? b ≠ none → b ∉ frs outer → B.get? b = some o
noncomputable def CXE (P : Program) (w : World) : CXT := fun outer H s E e s' => ∃ ea cls dd H', e = .ref ea ∧ Fly P w outer H s H' ea cls dd s' ∧ E cls dd H'
section
variable {X : Cx} {pins : List (Addr × Obj)} {σ : St} {H : Hp} {s s' : Shared} {h' : Heap} {E : XK} {e : Value} {B : Heap} {ea : Addr}
theorem Aloft.move (I : Inv X pins σ H s) (own : Own X) (a : Aloft X pins H B ea s.heap) (st : B.StaysIn h') (fr : h'.FunFrames B X.stack) (up : s.heap.UpToSlots h') :
    Inv X pins σ H { s with heap := h' } ∧ Aloft X pins H B ea h' := by
  obtain ⟨a1, a2, a3, a4⟩ := a
  refine ⟨I.aloft own (fun b o e k => st b o (a4 b o e k)) up, st, a2, fr, fun b o e k => ?_⟩
  obtain ⟨⟨o1, e1⟩, _⟩ := k.there I own
  have e2 := a4 b o1 e1 k
  have e3 := st b o1 e2
  rw [e] at e3
  cases e3
  exact e2
theorem InFl.of_call (own : Own X) (I : Inv X pins σ H s) (h : CXE X.prog X.w X.stack H s E e s') : InFl X pins σ E e s' := by
  obtain ⟨ea, cls, dd, H', rfl, F, hE⟩ := h
  obtain ⟨B, a0, ⟨f1, f2, f3, f4⟩, tr, old⟩ := F.fl
  have I' : Inv X pins σ H' s' := I.call' F.os F.un F.hok F.bare (fun b z => absurd z (by simp))
  refine ⟨ea, cls, a0, dd, H', B, rfl, hE, I', ⟨f1, f2, f3, fun b o e k => ?_⟩, .inr (.inl f4)⟩
  rcases k with k | k
  · exact tr b o e k
  · obtain ⟨⟨o1, e1⟩, nf⟩ := Kept.there (b := b) I own (.inr k)
    exact old b o e (by rw [e1]; simp) nf
theorem InFl.of_raise (own : Own X) (I : Inv X pins σ H s) {cls : Value} {args : List Value} (mk : Heap.MadeExcOf s.heap h' ea cls args) (hE : E cls none H) : InFl X pins σ E (.ref ea) { s with heap := h' } := by
  obtain ⟨t, he, htn, ht⟩ := mk.there
  have st : (PySem.W.hideAll s.heap (frs X.stack)).StaysIn s.heap := fun b o q => PySem.W.of_hideAll _ q
  have I' : Inv X pins σ H { s with heap := h' } := I.kept (t' := s.toks) mk.keeps
  refine ⟨ea, cls, .ref t, none, H, PySem.W.hideAll s.heap (frs X.stack), rfl, hE, I', ⟨fun b o q => mk.keeps b o (st b o q), ?_, ?_, fun b o e k => ?_⟩, .inl ⟨_, _, he, ⟨rfl, rfl⟩, rfl, rfl, rfl⟩⟩
  · cases q : (PySem.W.hideAll s.heap (frs X.stack)).get? ea with
    | none => rfl
    | some o => have z := st ea o q; rw [mk.new] at z; cases z
  · exact (PySem.W.funFrames_hide I.stack fun env he a ha => List.mem_filterMap.mpr ⟨env, he, ha⟩).of_keeps fun b o hb _ => ⟨o, mk.keeps b o hb, rfl⟩
  · obtain ⟨⟨o1, e1⟩, nf⟩ := k.there I own
    have e2 := mk.keeps b o1 e1
    have e : h'.get? b = some o := e
    rw [e2] at e
    cases e
    exact PySem.W.hideAll_get _ e1 nf
theorem InFl.leave {E' : Value → Shared → Prop} {x : Value} (own : Own X) (h : InFl X pins σ E x s') : wpAny (model X.prog X.w) X.A (leaving X.env x) (fun _ s'' => CXE X.prog X.w X.outer X.H₀ X.s₀ E x s'') E' s' := by
  obtain ⟨ea, cls, a0, dd, H', B, rfl, hE, I, a, st⟩ := h
  have hfr : X.A.frames = some (X.env :: X.outer) := by rw [I.ok.frames, own.stk]
  obtain ⟨a1, a2, a3, a4⟩ := id a
  rw [own.stk] at a3
  unfold leaving
  refine wpAny_bind (note_stg hfr a3 own.fr a1 a2 st fun h1 x1 x2 x3 x4 => ?_)
  obtain ⟨I1, b⟩ := Aloft.move I own a x1 (by rw [own.stk]; exact x2) x4
  refine set_flight (s := { s' with heap := h1 }) (o := none) x1 x2 x3 fun h2 y1 y2 y3 y4 => ?_
  obtain ⟨I2, c⟩ := Aloft.move I1 own b y1 (by rw [own.stk]; exact y2) y4
  refine ⟨ea, cls, dd, H', rfl, ⟨I2.os, I2.bare, ?_, I2.hok, B, a0, ⟨y1, a2, y2.2.2, y3⟩, fun b o e k => c.2.2.2 b o e (.inl k), fun b o e k nf => c.2.2.2 b o e (.inr (.inl ⟨k, nf⟩))⟩, hE⟩
  have z := I2.base
  rw [own.ex] at z
  exact z
theorem passesOwn_fn (own : Own X) : PassesOwn (model X.prog X.w) X.A X.env (InFn X E) := by
  intro x s1 h
  obtain ⟨pins, σ, ea, cls, a0, dd, H', B, rfl, hE, I, a, st⟩ := h
  have hfr : X.A.frames = some (X.env :: X.outer) := by rw [I.ok.frames, own.stk]
  obtain ⟨a1, a2, a3, a4⟩ := id a
  rw [own.stk] at a3
  unfold notedBy
  refine note_stg hfr a3 own.fr a1 a2 st fun h1 x1 x2 x3 x4 => ?_
  obtain ⟨I1, b⟩ := Aloft.move I own a x1 (by rw [own.stk]; exact x2) x4
  refine came_back (s := { s1 with heap := h1 }) own.fr x1 x2 x3 fun h2 y1 y2 y3 y4 => ?_
  obtain ⟨I2, c⟩ := Aloft.move I1 own b y1 (by rw [own.stk]; exact y2) y4
  exact ⟨pins, σ, ea, cls, a0, dd, H', B, rfl, hE, I2, c, .inr (.inr y3)⟩
theorem InFl.unwish {W : Value → Shared → Prop} {x : Value} (h : InFl (X.wish W) pins σ E x s') : InFl X pins σ E x s' := by
  obtain ⟨ea, cls, a0, dd, H', B, q, hE, I, a, st⟩ := h
  exact ⟨ea, cls, a0, dd, H', B, q, hE, I.unwish, a, st⟩
theorem Own.wish (own : Own X) (W : Value → Shared → Prop) : Own (X.wish W) := ⟨own.stk, own.fr, own.ex⟩
theorem passes_fn (own : Own X) : Passes (CXE X.prog X.w) (X.wish (InFn X E)) E := fun pins σ H s e s' I h =>
  ⟨pins, σ, (InFl.of_call (own.wish _) I h).unwish⟩
theorem PSs.wishTo {W : Value → Shared → Prop} {sts : List Stmt} {t : TS} (h : PSs (X.wish W) sts t) (hw : ∀ e s', W e s' → X.xe e s') : PSs X sts t := fun pins s σ H D I ht =>
  wpAny_mono (h pins s σ H D (I.wish _) ht) (fun _ _ q => q.unwish) hw
end

noncomputable def Raises (X : Cx) (E : XK) : Prop := ∀ (pins : List (Addr × Obj)) (σ : St) (H : Hp) (s : Shared) (h' : Heap) (ea : Addr) (cls : Value) (args : List Value), Inv X pins σ H s → Heap.MadeExcOf s.heap h' ea cls args → E cls none H → X.xe (.ref ea) { s with heap := h' }
theorem raises_fn {X : Cx} {E : XK} (own : Own X) : Raises (X.wish (InFn X E)) E := fun pins σ H s h' ea cls args I mk hE => ⟨pins, σ, (InFl.of_raise (own.wish _) I mk hE).unwish⟩

/-! ### own error classes of the text -/
theorem exc_obj {K : PySem.W.Frag} {h : Heap} {C : Addr} {bmB : List Value} {newId : String} (X : K.In h) (q : PySem.W.excIn K C bmB newId = true) :
    ∃ (bm : List Value) (N : Addr) (nm qn : Str) (bs : List Value) (hd : Bool) (sn : List Str) (sub : List Value) (ab : Bool) (col : Option Bool) (dd : Option Addr) (k0 k1 k2 k3 k5 : Option Value) (mN : Str → Option Value),
      h.get? C = some (excClassObj nm qn C N bs bm hd sn sub ab col dd k0 k1 k2 k3 k5 newId) ∧ h.Ns N mN ∧ mN "__init__" = none ∧ OwnTail h bmB bm := by
  unfold PySem.W.excIn at q
  split at q
  · rename_i dd cd sl ho
    split at q
    · rename_i C' bm k0 k1 k2 k3 n k5 hm hs
      simp only [Bool.and_eq_true, beq_iff_eq, Bool.not_eq_true'] at q
      obtain ⟨⟨⟨⟨⟨rfl, rfl⟩, hdel⟩, ht⟩, hok⟩, hni⟩ := q
      obtain ⟨nm, bs, mro, ns, qn, hd, sn, sub, ab, col, del⟩ := cd
      dsimp only at hm hdel hok hni
      subst hm hdel
      have hsl : sl = #[k0, k1, k2, k3, some (.builtin n), k5] := by
        obtain ⟨l⟩ := sl
        simp only at hs
        rw [hs]
      subst hsl
      exact ⟨bm, ns, nm, qn, bs, hd, sn, sub, ab, col, dd, k0, k1, k2, k3, k5, _, X _ _ ho, .of_isNs (PySem.W.isNs_of_in X hok), PySem.W.nsMap_none_of_in X hok hni, PySem.W.tail_of_in X ht⟩
    · cases q
  · cases q
noncomputable abbrev bmV : List Value := [.type "ValueError", .type "Exception", .type "BaseException", .type "object"]
noncomputable abbrev ExcV (K : PySem.W.Frag) (C : Addr) : Prop := PySem.W.excIn K C bmV "ValueError.__new__" = true
noncomputable def tRaise (C : Addr) (E : XK) (t : TA) : TS := fun _ σ H => t σ H fun vs H1 => vs.length ≤ sizeLine ∧ E (.ref C) none H1
theorem ps_raise {X : Cx} {E : XK} {C : Addr} {x : Str} {np cpos pos : Pos} {e : Expr} {es : List Expr} {t : TA} (hR : Raises X E) (hc : X.calm = true) (V : ExcV X.K C) (hg : Gl X x) (hm : X.mg x = some (.ref C)) (ha : PA X (e :: es) t)
    (he : starEach (e :: es) X.env = (false, eval e X.env) :: starEach es X.env := by rfl) (hpl : (backTo cpos (starEach es X.env)).any (·.1) = false := by rfl) (hd : (x == ("__debug__" : Str)) = false := by decide) :
    PS X (.Raise (some (.Call (.Name x np) (e :: es) [] cpos)) none pos) (tRaise C E t) := by
  intro pins s σ H D I h
  have FB := PySem.F.excBase_ValueError
  obtain ⟨tl, N, nm, q, bs, hdct, sn, sub, ab, col, dd, k0, k1, k2, k3, k5, mN, hC, hN, hni, T⟩ := exc_obj I.mod.kin V
  refine wpAny_Raise_call_subT (C := C) (nm := nm) (q := q) (N := N) (bs := bs) (bm := tl) (hdct := hdct) (sn := sn) (sub := sub) (ab := ab) (col := col) (dd := dd) (k0 := k0) (k1 := k1) (k2 := k2) (k3 := k3) (k5 := k5)
    FB (mN := mN) (T.hasType FB.hasBase) (I.ok.hd hc) (by rw [he]; show (false || (backTo cpos (starEach es X.env)).any (·.1)) = false; rw [hpl]; rfl) hni (ld_glob I hg hm ⟨rfl, ?_⟩ hd)
  have hp := ha cpos pins s σ H _ I h
  rw [he] at hp ⊢
  refine Calls.evalArgs_plain (thn hp fun us s1 ⟨vs, H1, I1, r, hz, hE⟩ => ?_)
  exact ⟨rfl, by show us.length ≤ sizeLine; rw [← r.length]; exact hz, I1.bk _ _ hC, hN.keeps I1.bk, T.keeps I1.bk, fun h' ea mk => hR pins σ H1 s1 h' ea _ us I1 mk hE⟩

/-! ### a def that may raise -/
theorem own_cxOf {CX : CXT} {P : Program} {w : World} {K : PySem.W.Frag} {mg : Str → Option Value} {base : Heap} {N : List Str} {qual : Str} {scope : Scope} {f : Addr} {cd : Value} {A : Around} {outer : List Env} {s : Shared} {H : Hp} {E : XK} :
    Own (cxOf CX P w K mg base N qual scope f cd A outer s H E) := ⟨rfl, rfl, rfl⟩
section
variable {P : Program} {w : World} {K : PySem.W.Frag} {mg : Str → Option Value} {base : Heap}
theorem Fun.okX {x qual : Str} {st : Stmt} {f : Addr} {fd : FuncData} {N ps : List Str} {k : Nat} {sp : Sp} (F : Fun K x qual st f fd) (S : FnScope N ps (defScope st)) (len : ∀ vs H Q E, sp vs H Q E → vs.length = ps.length)
    (hbody : ∀ (cdv : Value) (A : Around) (outer : List Env) (s : Shared) (H : Hp) (vs : List V) (Q : VK) (E : XK), Room k (A.deeper (envOfC qual (defScope st) s.heap.objs.size f cdv)) → sp vs H Q E →
      ∃ t, PSs ((cxOf (CXE P w) P w K mg base N qual (defScope st) f cdv A outer s H E).wish (InFn (cxOf (CXE P w) P w K mg base N qual (defScope st) f cdv A outer s H E) E)) (defBody st) t ∧ t { nx := fun _ H' => Q .non H', rt := Q } (start N vs) H) :
    FnOk P w K mg base (CXE P w) (k + 1) f fd ps sp := by
  obtain ⟨oc, od, kV, doc, pm, an, cdv, ct, osl, rfl, lk, hcd⟩ := F.ex
  refine fn_of lk hcd S len fun A outer s H vs Q E hr hsp => ?_
  obtain ⟨t, h, q⟩ := hbody cdv A outer s H vs Q E hr hsp
  refine ⟨t, h.wishTo fun e s' ⟨pins, σ, z⟩ => ?_, q⟩
  exact z.leave own_cxOf
end

/-! ### calls within a try: an exception is wanted where the names stand as at the try's beginning -/
noncomputable def PassesAt (CX : CXT) (X : Cx) (E : XK) (σ : St) : Prop := ∀ (pins : List (Addr × Obj)) (H : Hp) (s : Shared) (e : Value) (s' : Shared), Inv X pins σ H s → CX X.stack H s E e s' → X.xe e s'
noncomputable def tCallT (sp : Sp) (dvs : List V) (E : XK) (σ₀ : St) (t : TA) : TE := fun σ H Q => σ = σ₀ ∧ t σ H fun vs H1 => sp (vs ++ dvs) H1 Q E
noncomputable def tMakeT (C : Addr) (sp : Sp) (dvs : List V) (E : XK) (σ₀ : St) (t : TA) : TE := fun σ H Q => σ = σ₀ ∧ t σ H fun vs H1 => ∀ x dx, H1 x = none → H1 dx = none → dx ≠ x →
  sp (.ref x :: (vs ++ dvs)) (upd (upd H1 dx (.own x)) x (.ins C dx [])) (fun v H2 => v = .non ∧ Q (.ref x) H2) E
section
variable {X : Cx} {CX : CXT} {k : Nat} {f C : Addr} {fd : FuncData} {ps : List Str} {sp : Sp} {dvs : List V} {ds : List Value} {E : XK} {σ₀ : St} {x m : Str} {p pos apos : Pos} {e o : Expr} {es : List Expr} {ta : TE} {t : TA}
theorem run_fnT {pins : List (Addr × Obj)} {H : Hp} {s : Shared} {Q : VK} {us : List Value} {vs : List V} (F : FnOk X.prog X.w X.K X.mg X.base CX k f fd ps sp) (hr : Room k X.A) (hb : Binds X.K fd ps ds) (hd : Vals dvs ds) (hx : PassesAt CX X E σ₀)
    (I : Inv X pins σ₀ H s) (r : Vals vs us) (h : sp (vs ++ dvs) H Q E) : wpAny (model X.prog X.w) X.A (call (.ref f) us) (EP X pins σ₀ Q) X.xe s := by
  have r2 : Vals (vs ++ dvs) (us ++ ds) := r.append hd
  have hl : (us ++ ds).length = ps.length := by rw [← r2.length]; exact F.len _ _ _ _ h
  refine wpAny_call (codeAny_mono (F.run X.A X.stack s H ⟨us, []⟩ (us ++ ds) (vs ++ dvs) Q E hr I.env0 (hb s us I.kIn hl) r2 h) fun r s' hq => ?_)
  cases r with
  | error e => exact hx pins H s e s' I hq
  | ok fl =>
    cases fl with
    | ret u => exact I.after hq
    | next => exact False.elim hq
    | brk => exact False.elim hq
    | cont => exact False.elim hq
theorem pe_callT (F : FnOk X.prog X.w X.K X.mg X.base CX k f fd ps sp) (hr : Room k X.A) (hg : Gl X x) (hm : X.mg x = some (.ref f)) (hk : PySem.W.keepIn X.K (.ref f) = true) (hb : Binds X.K fd ps ds) (hd : Vals dvs ds) (hx : PassesAt CX X E σ₀)
    (ha : PA X (e :: es) t) (hdb : (x == ("__debug__" : Str)) = false := by decide) (he : starEach (e :: es) X.env = (false, eval e X.env) :: starEach es X.env := by rfl) (hpl : (backTo pos (starEach es X.env)).any (·.1) = false := by rfl) :
    PE X (.Call (.Name x p) (e :: es) [] pos) (tCallT sp dvs E σ₀ t) := by
  rintro pins s σ H Q I ⟨rfl, h⟩
  refine wpAny_Call_Name_kw (ld_glob I hg hm ?_ hdb)
  refine PySem.W.callWith_K (h₀ := X.base) I.ok.mod.kin hk (thn (ha pos pins s σ H _ I h) fun us s1 ⟨vs, H1, I1, r, q⟩ => ⟨I1.kIn, ?_⟩) he hpl
  exact run_fnT F hr hb hd hx I1 r q
theorem run_makeT {pins : List (Addr × Obj)} {H : Hp} {s : Shared} {Q : VK} {us : List Value} {vs : List V} (M : Mk X.K C f) (F : FnOk X.prog X.w X.K X.mg X.base CX k f fd ps sp) (hr : Room (k + 1) X.A) (hb : Binds X.K fd ps ds) (hd : Vals dvs ds)
    (hx : PassesAt CX X E σ₀) (I : Inv X pins σ₀ H s) (r : Vals vs us)
    (h : ∀ x dx, H x = none → H dx = none → dx ≠ x → sp (.ref x :: (vs ++ dvs)) (upd (upd H dx (.own x)) x (.ins C dx [])) (fun v H2 => v = .non ∧ Q (.ref x) H2) E) :
    wpAny (model X.prog X.w) X.A (call (.ref C) us) (EP X pins σ₀ Q) X.xe s := by
  have hq := h (s.heap.objs.size + 1) s.heap.objs.size (I.hok.fresh (Nat.le_succ _)) (I.hok.fresh (Nat.le_refl _)) (Nat.ne_of_lt (Nat.lt_succ_self _))
  have I2 := Inv.made (C := C) I
  have r2 : Vals (V.ref (s.heap.objs.size + 1) :: (vs ++ dvs)) (Value.ref (s.heap.objs.size + 1) :: (us ++ ds)) := .cons rfl (r.append hd)
  have hl : (Value.ref (s.heap.objs.size + 1) :: us ++ ds).length = ps.length := by
    have e := r2.length
    rw [F.len _ _ _ _ hq] at e
    exact e.symm
  refine wpAny_call (make_map (f := f) I.kIn M.makes M.init (beq_iff_eq.mp M.fn) (codeAny_mono (F.run _ X.stack _ _ ⟨Value.ref (s.heap.objs.size + 1) :: us, []⟩ (Value.ref (s.heap.objs.size + 1) :: (us ++ ds)) _ _ E (hr.make C us [])
    (I2.env0.make C us []) (hb _ (Value.ref (s.heap.objs.size + 1) :: us) I2.kIn hl) r2 hq) fun r s' hq' => ?_))
  cases r with
  | error e => exact hx pins _ _ e s' I2 hq'
  | ok fl =>
    cases fl with
    | ret u =>
      obtain ⟨v, H', I3, rv, ev, q3⟩ := I2.after hq'
      subst ev
      exact ⟨rv, ⟨V.ref (s.heap.objs.size + 1), H', I3, rfl, q3⟩⟩
    | next => exact False.elim hq'
    | brk => exact False.elim hq'
    | cont => exact False.elim hq'
theorem pe_makeT (M : Mk X.K C f) (F : FnOk X.prog X.w X.K X.mg X.base CX k f fd ps sp) (hr : Room (k + 1) X.A) (hg : Gl X x) (hm : X.mg x = some (.ref C)) (hb : Binds X.K fd ps ds) (hd : Vals dvs ds) (hx : PassesAt CX X E σ₀)
    (ha : PA X (e :: es) t) (hdb : (x == ("__debug__" : Str)) = false := by decide) (he : starEach (e :: es) X.env = (false, eval e X.env) :: starEach es X.env := by rfl) (hpl : (backTo pos (starEach es X.env)).any (·.1) = false := by rfl) :
    PE X (.Call (.Name x p) (e :: es) [] pos) (tMakeT C sp dvs E σ₀ t) := by
  rintro pins s σ H Q I ⟨rfl, h⟩
  refine wpAny_Call_Name_kw (ld_glob I hg hm ?_ hdb)
  refine PySem.W.callWith_K (h₀ := X.base) I.ok.mod.kin M.kp (thn (ha pos pins s σ H _ I h) fun us s1 ⟨vs, H1, I1, r, q⟩ => ⟨I1.kIn, ?_⟩) he hpl
  exact run_makeT M F hr hb hd hx I1 r q
end

/-! ### an exception that is held by a name -/
noncomputable def exO (ea C : Addr) (dd : Option Addr) : HO := .ext fun h => ∃ o vs, h.get? ea = some o ∧ o.cls = .ref C ∧ o.dict = dd ∧ o.data = .fields vs
theorem exO_ok {P : Program} {w : World} {H : Hp} {h : Heap} {ea C : Addr} {dd : Option Addr} {o : Obj} {vs : Array Value} (e : h.get? ea = some o) (hc : o.cls = .ref C) (hd : o.dict = dd) (hf : o.data = .fields vs) : ObjOk P w H h ea (exO ea C dd) :=
  ⟨⟨o, vs, e, hc, hd, hf⟩, ⟨o, e⟩, fun h1 h2 ⟨o1, ws, e1, r⟩ k => ⟨o1, ws, k o1 e1, r⟩⟩
section
variable {X : Cx} {pins : List (Addr × Obj)} {σ : St} {H : Hp} {s : Shared} {h' : Heap} {ea C : Addr} {dd : Option Addr}
theorem Inv.track (I : Inv X pins σ H s) (hn : H ea = none) (new : X.s₀.heap.get? ea = none) (neL : ea ≠ X.env.locals) (nc : ∀ x c, X.env.cells.lookup x = some c → c ≠ ea) (np : ∀ p ∈ X.pn ++ pins, p.1 ≠ ea)
    (ok : ∀ H', ObjOk X.prog X.w H' s.heap ea (exO ea C dd)) : Inv X pins σ (upd H ea (exO ea C dd)) s := by
  have un : ∀ {b o}, H b = some o → b ≠ ea := fun e z => by rw [z, hn] at e; cases e
  refine ⟨I.ok, I.os, I.bare, ⟨I.base.keep, I.base.slot, fun b o e n hx => ?_, I.base.there, fun b xs e => ?_, fun b o u e => ?_, fun b ps e => ?_⟩, I.loc, I.cell, ?_, fun x c e => ?_, fun p hp => ?_, fun b u e => ?_, I.len⟩
  · rw [upd_ne (fun z => by rw [z, new] at e; cases e)]
    exact I.base.free b o e n hx
  · have z := I.base.tups b xs e
    rw [upd_ne (un z)]
    exact z
  · have z := I.base.frzs b o u e
    rw [upd_ne (un z)]
    exact z
  · obtain ⟨more, z⟩ := I.base.tbls b ps e
    exact ⟨more, by rw [upd_ne (un z)]; exact z⟩
  · rw [upd_ne (Ne.symm neL)]
    exact I.free
  · rw [upd_ne (nc x c e)]
    exact I.freeC x c e
  · obtain ⟨e, n, r⟩ := I.pin p hp
    exact ⟨e, by rw [upd_ne (np p hp)]; exact n, r⟩
  · by_cases hb : b = ea
    · subst hb
      rw [upd_same] at e
      cases e
      exact ok _
    · rw [upd_ne hb] at e
      exact (I.hok b u e).stay (fun c v _ q => q) (fun c q => by rw [upd_ne (un q)]; exact q) fun c xs q => by rw [upd_ne (un q)]; exact q
theorem Inv.forget {i : Nat} {n : Str} {m : Str → Option Value} {v : Option Value} {tk : Nat} (I : Inv X pins σ H s) (hN : X.N.Nodup) (hi : X.N[i]? = some n)
    (hm : ∀ (j : Nat) (x : Str) (u : V), X.N[j]? = some x → σ[j]? = some (some u) → Vis X.env.scope x → ∃ w', RelV u w' ∧ Look X.env s.heap m x w') (hn' : h'.Ns X.env.locals (fun x => if x = n then v else m x)) (hs : Heap.SameBut X.env.locals s.heap h') : Inv X pins (σ.set i none) H { s with heap := h', toks := tk } := by
  obtain ⟨m0, hn0, _⟩ := id I.loc
  obtain ⟨oL, _, _, hoL, _⟩ := id hn0
  have tracked : HOk X.prog X.w H h' := fun b ob e => by
    refine (I.hok b ob e).stay (fun c w' hc q => (hs.2 c ?_).trans q) (fun _ q => q) fun _ _ q => q
    rintro rfl
    rcases hc with rfl | hc
    · rw [I.free] at e; cases e
    · rw [I.free] at hc; cases hc
  refine ⟨I.ok, I.os, I.bare, ⟨fun b o e n hb hx => ?_, fun b o e n hb hx => ?_, I.base.free, fun b o e hx => ?_, I.base.tups, I.base.frzs, I.base.tbls⟩, ⟨_, hn', fun j y v' e1 e2 e3 => ?_⟩, fun y c e => ?_, I.free, I.freeC, fun p hp => ?_, tracked, by simpa using I.len⟩
  · exact (hs.2 b (Nat.ne_of_lt (Nat.lt_of_lt_of_le (Heap.lt_size e) I.ok.above))).trans (I.base.keep b o e n hb hx)
  · obtain ⟨sl, e1⟩ := I.base.slot b o e n hb hx
    exact ⟨sl, (hs.2 b (Nat.ne_of_lt (Nat.lt_of_lt_of_le (Heap.lt_size e) I.ok.above))).trans e1⟩
  · obtain ⟨o', e1⟩ := I.base.there b o e hx
    exact ⟨o', (hs.2 b (Nat.ne_of_lt (Nat.lt_of_lt_of_le (Heap.lt_size e) I.ok.above))).trans e1⟩
  · by_cases hj : j = i
    · subst hj
      by_cases hlt : j < σ.length
      · rw [List.getElem?_set_self hlt] at e2
        cases e2
      · rw [List.getElem?_eq_none (by rw [List.length_set]; omega)] at e2
        cases e2
    · rw [List.getElem?_set_ne (Ne.symm hj)] at e2
      obtain ⟨u', r', q⟩ := hm j y v' e1 e2 e3
      refine ⟨u', r', ?_⟩
      rcases q with ⟨k, e⟩ | ⟨k, c, e, z⟩
      · refine .inl ⟨k, ?_⟩
        have : y ≠ n := fun e => hj (nodup_ix hN e1 (e ▸ hi))
        simp [this, e]
      · exact .inr ⟨k, c, e, z.sameBut hs (I.cne y c e)⟩
  · obtain ⟨w', z⟩ := I.cell y c e
    exact ⟨w', z.sameBut hs (I.cne y c e)⟩
  · obtain ⟨e, n, ne, nf, d⟩ := I.pin p hp
    exact ⟨(hs.2 p.1 ne).trans e, n, ne, nf, d⟩
end

/-! ### try .. except D as n -/
noncomputable def excUnder (K : PySem.W.Frag) (C D : Addr) : Bool := match K.lookup C with
  | some ⟨_, _, .cls cd, _⟩ => cd.mro.contains (.ref D)
  | _ => false
structure ExcM (K : PySem.W.Frag) (C D : Addr) : Prop where
  c : PySem.W.ktsIn K C "BaseException" = true
  u : excUnder K C D = true
noncomputable def tTry (K : PySem.W.Frag) (D : Addr) (i : Nat) (tb : XK → St → TS) (ts : TS) : TS := fun Q σ H => ∃ E : XK, tb E σ Q σ H ∧ ∀ cls dd H', E cls dd H' → ∃ C, cls = .ref C ∧ ExcM K C D ∧
  ∀ ea, H' ea = none → ts { nx := fun σ2 H2 => Q.nx (σ2.set i none) H2, rt := Q.rt, bk := fun σ2 H2 => Q.bk (σ2.set i none) H2, ct := fun σ2 H2 => Q.ct (σ2.set i none) H2 } (σ.set i (some (.ref ea))) (upd H' ea (exO ea C dd))
noncomputable abbrev Cx.bodyT (X : Cx) (pn : List (Addr × Obj)) (W : Value → Shared → Prop) : Cx := { X with pn := pn, xe := W }
noncomputable abbrev Cx.suite (X : Cx) (A : Around) : Cx := { X with A := A, calm := false, xe := fun _ _ => False }
section
variable {X : Cx} {pins pn : List (Addr × Obj)} {σ : St} {H : Hp} {s : Shared} {W : Value → Shared → Prop}
theorem Cx.Ok.bodyT (ok : X.Ok) : (X.bodyT pn W).Ok :=
  ⟨ok.mod, ok.kind, ok.glob, ok.blt, ok.above, ok.inj, ok.has, ok.cab, ok.hd, ok.frames, ok.stk, ok.exf, ok.bs, ok.bsz, ok.noex, ok.exfs, ok.funs, ok.frf⟩
theorem Cx.Ok.unbodyT (ok : (X.bodyT pn W).Ok) : X.Ok :=
  ⟨ok.mod, ok.kind, ok.glob, ok.blt, ok.above, ok.inj, ok.has, ok.cab, ok.hd, ok.frames, ok.stk, ok.exf, ok.bs, ok.bsz, ok.noex, ok.exfs, ok.funs, ok.frf⟩
theorem Inv.bodyT (I : Inv X pins σ H s) : Inv (X.bodyT (X.pn ++ pins) W) [] σ H s :=
  ⟨I.ok.bodyT, I.os, I.bare, I.base, I.loc, I.cell, I.free, I.freeC, fun p hp => I.pin p (by simpa using hp), I.hok, I.len⟩
theorem Inv.unbodyT {q : List (Addr × Obj)} (I : Inv (X.bodyT (X.pn ++ pins) W) q σ H s) : Inv X pins σ H s :=
  ⟨I.ok.unbodyT, I.os, I.bare, I.base, I.loc, I.cell, I.free, I.freeC, fun p hp => I.pin p (List.mem_append_left _ hp), I.hok, I.len⟩
theorem SP.unbodyT {D : Ends} {f : Flow} (h : SP (X.bodyT (X.pn ++ pins) W) [] D f s) : SP X pins D f s := by
  cases f with
  | next => obtain ⟨σ', H', I, q⟩ := h; exact ⟨σ', H', I.unbodyT, q⟩
  | brk => obtain ⟨σ', H', I, q⟩ := h; exact ⟨σ', H', I.unbodyT, q⟩
  | cont => obtain ⟨σ', H', I, q⟩ := h; exact ⟨σ', H', I.unbodyT, q⟩
  | ret u => obtain ⟨v, σ', H', I, r, q⟩ := h; exact ⟨v, σ', H', I.unbodyT, r, q⟩
theorem Cx.Ok.suite {A : Around} (ok : X.Ok) (hA : A.frames = X.A.frames) : (X.suite A).Ok :=
  ⟨ok.mod, ok.kind, ok.glob, ok.blt, ok.above, ok.inj, ok.has, ok.cab, fun h => (by cases h), hA.trans ok.frames, ok.stk, ok.exf, ok.bs, ok.bsz, ok.noex, ok.exfs, ok.funs, ok.frf⟩
theorem Inv.suite {A : Around} (I : Inv X pins σ H s) (hA : A.frames = X.A.frames) : Inv (X.suite A) pins σ H s := ⟨I.ok.suite hA, I.os, I.bare, I.base, I.loc, I.cell, I.free, I.freeC, I.pin, I.hok, I.len⟩
theorem Inv.unsuite {A : Around} (ok : X.Ok) (I : Inv (X.suite A) pins σ H s) : Inv X pins σ H s := ⟨ok, I.os, I.bare, I.base, I.loc, I.cell, I.free, I.freeC, I.pin, I.hok, I.len⟩
end
theorem exc_two {K : PySem.W.Frag} {h : Heap} {C D : Addr} (X : K.In h) (m : ExcM K C D) : ∃ (nm q : Str) (N : Addr) (bs bm : List Value) (hdct : Bool) (sn : List Str) (sub : List Value) (ab : Bool) (col : Option Bool) (dd : Option Addr) (k0 k1 k2 k3 k5 : Option Value) (newId : String),
    h.get? C = some (excClassObj nm q C N bs bm hdct sn sub ab col dd k0 k1 k2 k3 k5 newId) ∧ (Value.ref C :: bm).contains (.ref D) = true := by
  obtain ⟨nm, q, N, bs, bm, hdct, sn, sub, ab, col, dd, k0, k1, k2, k3, k5, newId, hC, _, _⟩ := PySem.W.kts_cls X m.c
  refine ⟨nm, q, N, bs, bm, hdct, sn, sub, ab, col, dd, k0, k1, k2, k3, k5, newId, hC, ?_⟩
  have u := m.u
  unfold excUnder at u
  split at u
  · rename_i c' d' cd sl ho
    have z := (X _ _ ho).symm.trans hC
    cases z
    exact u
  · cases u
theorem ps_try {X : Cx} {body suite : List Stmt} {b₀ : Stmt} {tb : XK → St → TS} {ts : TS} {D : Addr} {x n : Str} {i : Nat} {np hp pos : Pos} (own : Own X)
    (hb : ∀ (pn : List (Addr × Obj)) (W : Value → Shared → Prop) (E : XK) (σ₀ : St), PassesAt (CXE X.prog X.w) (X.bodyT pn W) E σ₀ → PSs (X.bodyT pn W) body (tb E σ₀))
    (VD : PySem.W.ktsIn X.K D "BaseException" = true) (hg : Gl X x) (hm : X.mg x = some (.ref D)) (hN : X.N.Nodup) (hi : X.N[i]? = some n) (hl : X.env.kindOf n = some .local) (hs : ∀ A' : Around, PSs (X.suite A') (b₀ :: suite) ts)
    (hd : (x == ("__debug__" : Str)) = false := by decide) : PS X (.Try body [.ExceptHandler (some (.Name x np)) (some n) (b₀ :: suite) hp] [] [] pos) (tTry X.K D i tb ts) := by
  intro pins s σ H Q I h
  obtain ⟨E, hE, hH⟩ := h
  have ownT : ∀ W, Own (X.bodyT (X.pn ++ pins) W) := fun W => ⟨own.stk, own.fr, own.ex⟩
  have hfr : X.A.frames = some (X.env :: X.outer) := by rw [I.ok.frames, own.stk]
  refine wpAny_Try_except ?_
  -- the body, wanting of an exception that it is one of this frame's, the names as at the beginning
  have pa : PassesAt (CXE X.prog X.w) (X.bodyT (X.pn ++ pins) (InFl X pins σ E)) E σ := fun pins' H1 s1 e s2 I1 hx => by
    obtain ⟨ea, cls, a0, dd, H', B, rfl, hE', I2, a, st⟩ := InFl.of_call (X := X.bodyT (X.pn ++ pins) (InFl X pins σ E)) (ownT _) I1 hx
    refine ⟨ea, cls, a0, dd, H', B, rfl, hE', I2.unbodyT, ⟨a.1, a.2.1, a.2.2.1, fun b o eb k => a.2.2.2 b o eb ?_⟩, st⟩
    rcases k with k | k | ⟨p, hp, z⟩
    · exact .inl k
    · exact .inr (.inl k)
    · exact .inr (.inr ⟨p, List.mem_append_left _ hp, z⟩)
  refine wpAny_mono (hb _ _ E σ pa [] s σ H Q I.bodyT hE) (fun f s1 q => ?_) fun e s1 q => ?_
  · have q' := q.unbodyT
    cases f with
    | next =>
      obtain ⟨σ', H', I', z⟩ := q'
      exact wpAny_execs_nil ⟨σ', H', I', z⟩
    | ret u => exact q'
    | brk => exact q'
    | cont => exact q'
  · -- the exception is looked at
    obtain ⟨ea, cls, a0, dd, H', B, rfl, hE', I1, a, st⟩ := q
    obtain ⟨C, rfl, mC, hts⟩ := hH cls dd H' hE'
    obtain ⟨a1, a2, a3, a4⟩ := id a
    rw [own.stk] at a3
    refine note_stg hfr a3 own.fr a1 a2 st fun h1 x1 x2 x3 x4 => ?_
    obtain ⟨I2, b⟩ := Aloft.move I1 own a x1 (by rw [own.stk]; exact x2) x4
    refine set_flight (s := { s1 with heap := h1 }) (o := none) x1 x2 x3 fun h2 y1 y2 y3 y4 => ?_
    obtain ⟨I3, c⟩ := Aloft.move I2 own b y1 (by rw [own.stk]; exact y2) y4
    have hAf : (X.A.mark (some (.ref ea))).frames = X.A.frames := rfl
    have I4 := I3.suite (A := X.A.mark (some (.ref ea))) hAf
    refine wpAny_handleBy_cons (codeAny_handlers_test (ld_glob (X := X.suite (X.A.mark (some (.ref ea)))) I4 hg hm ?_ hd)) (by intro q; cases q)
    obtain ⟨nm, q, N, bs, bm, hdct, sn, sub, ab, col, dc, k0, k1, k2, k3, k5, newId, hC, hcon⟩ := exc_two I3.kIn mC
    obtain ⟨nm2, q2, N2, bs2, bm2, hdct2, sn2, sub2, ab2, col2, dc2, j0, j1, j2, j3, j5, newId2, hD, hbase, _⟩ := PySem.W.kts_cls I3.kIn VD
    obtain ⟨oe, vs, T, oT, ws, he, hcls, hdt, _⟩ := id y3
    refine excMatches_own hC hD he hcls.1 hbase ?_
    rw [hcon]
    refine codeAny_handlers_suite_as ?_
    refine set_flight (o := none) y1 y2 y3 fun h3 z1 z2 z3 z4 => ?_
    obtain ⟨I5, d⟩ := Aloft.move I3 own c z1 (by rw [own.stk]; exact z2) z4
    -- the exception is tracked, and bound to the name
    obtain ⟨oe, vs, T, oT, ws, he, hcls, hdt, _⟩ := id z3
    have new : ∀ {b : Addr} {o : Obj}, h3.get? b = some o → Kept X pins H' b → b ≠ ea := fun e k z => by
      have w' := d.2.2.2 _ _ e k
      rw [z, a2] at w'
      cases w'
    have nH : H' ea = none := by
      cases q : H' ea with
      | none => rfl
      | some o => exact absurd rfl (new he (.inl (by rw [q]; simp)))
    have nfr : ea ∉ frs X.stack := fun hm => by
      obtain ⟨_, o, ho, hnf⟩ := I5.stack.mem hm
      have ho : h3.get? ea = some o := ho
      rw [he] at ho
      cases ho
      exact hnf vs hdt
    have hstk : frs X.stack = X.env.locals :: X.fs := by
      unfold frs Cx.fs
      rw [own.stk, List.filterMap_cons, own.fr]
      rfl
    rw [hstk] at nfr
    have nS : X.s₀.heap.get? ea = none := by
      cases q : X.s₀.heap.get? ea with
      | none => rfl
      | some o => exact absurd rfl (new he (.inr (.inl ⟨by rw [q]; simp, fun z => nfr (List.mem_cons_of_mem _ z)⟩)))
    have nC : ∀ x c, X.env.cells.lookup x = some c → c ≠ ea := fun y c e z => by
      obtain ⟨v, o, ho, hcd⟩ := I5.cell y c e
      have ho : h3.get? c = some o := ho
      rw [z, he] at ho
      cases ho
      rw [hdt] at hcd
      cases hcd
    have nP : ∀ p ∈ X.pn ++ pins, p.1 ≠ ea := fun p hp => by
      obtain ⟨e, _⟩ := I5.pin p hp
      exact new e (.inr (.inr ⟨p, hp, rfl⟩))
    have I6 := I5.track (C := C) (dd := dd) nH nS (fun z => nfr (by rw [z]; exact List.mem_cons_self)) nC nP fun H'' => exO_ok he hcls.1 hcls.2.2 hdt
    have I7 := I6.suite (A := X.A.mark (some (.ref ea))) hAf
    refine store_ok (X := X.suite (X.A.mark (some (.ref ea)))) (v := .ref ea) I7 hN hi (.inl hl) rfl (fun s4 I8 => ?_) (.inr hl)
    refine wpAny_mono (hs _ pins s4 _ _ _ I8 (hts ea nH)) (fun f s5 q => ?_) fun _ _ z => False.elim z
    -- behind the suite the name goes
    have go : ∀ {σ2 : St} {H2 : Hp}, Inv (X.suite (X.A.mark (some (.ref ea)))) pins σ2 H2 s5 → (∀ s6, Inv X pins (σ2.set i none) H2 s6 → SP X pins Q f s6) →
        wpAny (model X.prog X.w) X.A (do bindName X.env n .none; unbindBehindTheSuite X.env n hp) (fun _ s6 => SP X pins Q f s6) X.xe s5 := fun {σ2 H2} J k => by
      obtain ⟨m, hn, hlo⟩ := id J.loc
      refine wpAny_nameGoes_keeps hl hn (by rw [I.ok.kind]; rfl) fun h' v hn' hsb => ?_
      exact k _ ((J.unsuite I.ok).forget hN hi hlo hn' hsb)
    cases f with
    | next =>
      obtain ⟨σ2, H2, J, z⟩ := q
      exact go J fun s6 J6 => ⟨_, H2, J6, z⟩
    | brk =>
      obtain ⟨σ2, H2, J, z⟩ := q
      exact go J fun s6 J6 => ⟨_, H2, J6, z⟩
    | cont =>
      obtain ⟨σ2, H2, J, z⟩ := q
      exact go J fun s6 J6 => ⟨_, H2, J6, z⟩
    | ret u =>
      obtain ⟨v, σ2, H2, J, r, z⟩ := q
      exact go J fun s6 J6 => ⟨v, _, H2, J6, r, z⟩
end L2

set_option Elab.async false
set_option linter.all false
set_option maxRecDepth 100000
set_option maxHeartbeats 4000000
/-! Own rules over the hand layer, part 3: list comprehensions of one clause. -/
namespace L2
open PySem PySem.Spec PyProof.Rows

/-! ### the loop -/
section
variable {prog : Program} {w : World} {A : Around} {R : Result → Shared → Prop} {s : Shared}
theorem comp_loop {elt target iter : Expr} {ifs : List Expr} {scope : Scope} {pos : Pos} {it acc : Value} {env : Env} (I : Nat → Shared → Prop)
    (turn : ∀ n s, I n s → wpAny (model prog w) A (pyNext it) (fun r s₁ => match r with
      | none => R (.ok .next) s₁
      | some v => wpAny (model prog w) A (letOwnedTupleGo target it v) (fun _ s₁' => wpAny (model prog w) A (assign target env v) (fun _ s₂ =>
          wpAny (model prog w) A (forIn ifs true fun c r => if r = true then do let ok ← isTrue c env (eval c env); pure (ForInStep.yield ok) else pure (ForInStep.yield r)) (fun ok s₃ =>
            if ok = true then wpAny (model prog w) A (eval elt env) (fun x s₄ =>
              wpAny (model prog w) A (call (.builtin "list.append") [acc, x]) (fun _ s₅ => ∃ m, m < n ∧ I m s₅) (fun _ _ => False) s₄) (fun _ _ => False) s₃
            else ∃ m, m < n ∧ I m s₃) (fun _ _ => False) s₂) (fun _ _ => False) s₁') (fun _ _ => False) s₁) (fun _ _ => False) s)
    (n : Nat) (h : I n s) : codeAny (model prog w) A (.compLoop (.ListComp elt [⟨target, iter, ifs, 0⟩] scope pos) 0 it acc env) R s := by
  refine codeAny_loop rfl I (fun n s hI => ?_) n h
  show wpAny _ A ((compTurn (.ListComp elt [⟨target, iter, ifs, 0⟩] scope pos) 0 it acc env).onRaise (fun x => do noteFrame x env; theTreesLotGoes x)) _ _ s
  refine wpAny_noted ?_
  rw [compTurn_list]
  refine wpAny_bind (wpAny_standAt (wpAny_bind (wpAny_mono (turn n s hI) (fun r s₁ h₁ => ?_) fun _ _ h' => h'.elim)))
  cases r with
  | none => exact wpAny_pure h₁
  | some v =>
    refine wpAny_bind (wpAny_mono h₁ (fun _ s₁' h₁' => ?_) fun _ _ h' => h'.elim)
    refine wpAny_bind (wpAny_mono h₁' (fun _ s₂ h₂ => wpAny_bind (wpAny_mono h₂ (fun ok s₃ h₃ => ?_) fun _ _ h' => h'.elim)) fun _ _ h' => h'.elim)
    cases ok with
    | false => exact wpAny_pure ⟨rfl, h₃⟩
    | true =>
      exact wpAny_bind (wpAny_bind (wpAny_mono h₃ (fun x s₄ h₄ => wpAny_bind (wpAny_mono h₄ (fun _ s₅ h₅ => wpAny_pure (wpAny_pure ⟨rfl, h₅⟩)) fun _ _ h' => h'.elim)) fun _ _ h' => h'.elim))
end

/-! ### the closure -/
noncomputable def clOf (env : Env) (names : List (Str × NameKind)) (acc : List (Str × Addr)) : List (Str × Addr) := match names with
  | [] => acc
  | (n, k) :: r => clOf env r (if k == .free then (n, (env.cells.lookup n).getD 0) :: acc else acc)
theorem clOf_mem {env : Env} {y : Str} {c : Addr} : ∀ {names : List (Str × NameKind)} {acc : List (Str × Addr)}, (∀ p ∈ names, p.2 = .free → ∃ c, env.cells.lookup p.1 = some c) → (∀ y c, acc.lookup y = some c → env.cells.lookup y = some c) →
    (clOf env names acc).lookup y = some c → env.cells.lookup y = some c
  | [], acc, _, ha, h => ha y c h
  | (n, k) :: r, acc, hf, ha, h => by
    refine clOf_mem (names := r) (fun p hp => hf p (List.mem_cons_of_mem _ hp)) ?_ h
    intro z d hz
    by_cases hk : k = .free
    · subst hk
      obtain ⟨e, he⟩ := hf (n, .free) List.mem_cons_self rfl
      rw [if_pos (by rfl), he] at hz
      rw [List.lookup_cons] at hz
      cases hzn : (z == n) with
      | true =>
        rw [hzn] at hz
        rw [beq_iff_eq.mp hzn, he]
        exact hz
      | false =>
        rw [hzn] at hz
        exact ha z d hz
    · rw [if_neg (by simpa using hk)] at hz
      exact ha z d hz
theorem clOf_acc {env : Env} {y : Str} : ∀ {names : List (Str × NameKind)} {acc : List (Str × Addr)}, (acc.lookup y).isSome = true → ((clOf env names acc).lookup y).isSome = true
  | [], _, h => h
  | (n, k) :: r, acc, h => by
    refine clOf_acc (names := r) ?_
    by_cases hk : k = .free
    · subst hk
      rw [if_pos (by rfl), List.lookup_cons]
      cases (y == n) <;> simp [h]
    · rw [if_neg (by simpa using hk)]
      exact h
theorem clOf_has {env : Env} {y : Str} : ∀ {names : List (Str × NameKind)} {acc : List (Str × Addr)}, (y, NameKind.free) ∈ names → ((clOf env names acc).lookup y).isSome = true
  | [], _, h => by cases h
  | (n, k) :: r, acc, h => by
    rcases List.mem_cons.mp h with e | h
    · cases e
      refine clOf_acc (names := r) ?_
      rw [if_pos (by rfl), List.lookup_cons]
      simp
    · exact clOf_has (names := r) h
theorem closureFor_cl {env : Env} {scope : Scope} (hf : ∀ p ∈ scope.names, p.2 = .free → ∃ c, env.cells.lookup p.1 = some c) : closureFor scope env = pure (clOf env scope.names []) := by
  have go : ∀ (names : List (Str × NameKind)) (acc : List (Str × Addr)), (∀ p ∈ names, p.2 = .free → ∃ c, env.cells.lookup p.1 = some c) →
      (forIn names acc (fun (x : Str × NameKind) r => if (x.2 == NameKind.free) = true then do let c ← cellOf env x.1; pure (ForInStep.yield ((x.1, c) :: r)) else pure (ForInStep.yield r)) : Sem (List (Str × Addr))) = pure (clOf env names acc) := by
    intro names
    induction names with
    | nil => intro acc _; rfl
    | cons x r ih =>
      intro acc hf
      obtain ⟨n, k⟩ := x
      rw [List.forIn_cons]
      by_cases hk : k = .free
      · subst hk
        obtain ⟨c, hc⟩ := hf (n, .free) List.mem_cons_self rfl
        have e1 : cellOf env n = pure c := by unfold cellOf; rw [hc]
        simp only [e1, pure_bind, beq_self_eq_true, if_true]
        rw [ih _ fun p hp => hf p (List.mem_cons_of_mem _ hp)]
        have e2 : clOf env ((n, NameKind.free) :: r) acc = clOf env r ((n, c) :: acc) := by
          show clOf env r (if (NameKind.free == NameKind.free) = true then (n, (env.cells.lookup n).getD 0) :: acc else acc) = _
          rw [if_pos (by rfl), hc]
          rfl
        rw [e2]
      · have e1 : (k == NameKind.free) = false := by simpa using hk
        simp only [e1, pure_bind, Bool.false_eq_true, if_false]
        rw [ih _ fun p hp => hf p (List.mem_cons_of_mem _ hp)]
        have e2 : clOf env ((n, k) :: r) acc = clOf env r acc := by
          show clOf env r (if (k == NameKind.free) = true then (n, (env.cells.lookup n).getD 0) :: acc else acc) = _
          rw [if_neg (by simp [e1])]
        rw [e2]
  unfold closureFor
  have h := go scope.names [] hf
  simp only [bind_pure] at h ⊢
  exact h

/-! ### the block -/
noncomputable abbrev Cx.blk (X : Cx) (sc : Scope) (C : Addr) (s₁ : Shared) (H₁ : Hp) (pn : List (Addr × Obj)) (fp : List Addr) (NB : List Str) : Cx :=
  { X with N := NB, s₀ := s₁, H₀ := H₁, env := compEnvC sc (clOf X.env sc.names []) C X.env, outer := X.stack, ex := fp, fn := fun _ => false, pn := pn, xe := fun _ _ => False }
noncomputable def PIf (X : Cx) (ifs : List Expr) (t : TT) : Prop := ∀ (pins : List (Addr × Obj)) (s : Shared) (σ : St) (H : Hp) (Q : Bool → Hp → Prop), Inv X pins σ H s → t σ H Q →
  wpAny (model X.prog X.w) X.A (forIn ifs true fun c r => if r = true then do let ok ← isTrue c X.env (eval c X.env); pure (ForInStep.yield ok) else pure (ForInStep.yield r)) (TP X pins σ Q) X.xe s
noncomputable def tYes : TT := fun _ H Q => Q true H
theorem pif_nil {X : Cx} : PIf X [] tYes := fun _ _ _ H _ I h => wpAny_tests_nil ⟨H, I, h⟩
noncomputable abbrev TC := V → Hp → (List V → Prop) → Prop
noncomputable def cName : TC := fun x _ R => R [x]
noncomputable def cTup (K : PySem.W.Frag) (k : Nat) : TC := fun x H R => ∃ a xs, x = .ref a ∧ SqT K H a xs ∧ xs.length = k ∧ R xs
noncomputable def CompR (J : It) (c : TC) (tif : TT) (te : TE) (σ : St) (Q : VK) (acc : Addr) (H0 : Hp) : Prop := ∃ W : Nat → Nat → List V → Hp → Prop, (∃ m, W 0 m [] H0) ∧
  ∀ i m ys H, W i m ys H → (J.stop i H ∧ Q (.ref acc) H) ∨ (J.go i H ∧ ∀ x H', J.yld i H x H' → c x H' fun xs => tif (σ ++ xs.map some) H' fun b H3 =>
    if b = true then te (σ ++ xs.map some) H3 fun v H4 => H4 acc = some (.lst ys) ∧ ys.length < sizeLine ∧ ∃ m', m' < m ∧ W (i + 1) m' (ys ++ [v]) (upd H4 acc (.lst (ys ++ [v])))
    else ∃ m', m' < m ∧ W (i + 1) m' ys H3)
noncomputable def tComp (wi : TI) (c : TC) (tif : TT) (te : TE) : TE := fun σ H Q => wi σ H fun J H1 => ∀ acc, H1 acc = none → CompR J c tif te σ Q acc (upd H1 acc (.lst []))
noncomputable def Takes (g : TG) (c : TC) (n k : Nat) : Prop := ∀ (σ tl : St) (x : V) (H : Hp) (Q : List V → Prop), σ.length = n → tl.length = k → c x H Q → g x (σ ++ tl) H fun σ2 H2 => ∃ xs : List V, xs.length = k ∧ H2 = H ∧ σ2 = σ ++ xs.map some ∧ Q xs
theorem takes_name {n : Nat} : Takes (gName n) cName n 1 := fun σ tl x H Q hn hk h => by
  obtain ⟨t, rfl⟩ : ∃ t, tl = [t] := by
    match tl, hk with
    | [t], _ => exact ⟨t, rfl⟩
  refine ⟨[x], rfl, rfl, ?_, h⟩
  rw [List.set_append_right _ _ (by omega)]
  rw [show n - σ.length = 0 by omega]
  rfl
theorem takes_two {K : PySem.W.Frag} {n : Nat} : Takes (gTup K 2 (gCons (gName n) (gCons (gName (n + 1)) gNil))) (cTup K 2) n 2 := fun σ tl x H Q hn hk h => by
  obtain ⟨a, xs, rfl, hT, hl, q⟩ := h
  match xs, hl with
  | [u, v], _ =>
    obtain ⟨t1, t2, rfl⟩ : ∃ t1 t2, tl = [t1, t2] := by
      match tl, hk with
      | [t1, t2], _ => exact ⟨t1, t2, rfl⟩
    refine ⟨a, [u, v], rfl, hT, rfl, u, [v], rfl, v, [], rfl, rfl, [u, v], rfl, rfl, ?_, q⟩
    rw [List.set_append_right _ _ (by omega), show n - σ.length = 0 by omega, List.set_append_right _ _ (by omega), show n + 1 - σ.length = 1 by omega]
    rfl
theorem Un.same {fs ex : List Addr} {H H' : Hp} {h h1 h2 : Heap} {C : Addr} (u : Un fs ex H H' h h1) (hs : Heap.SameBut C h1 h2) (hC : h.get? C = none) : Un fs ex H H' h h2 := by
  have ne : ∀ {b o}, h.get? b = some o → b ≠ C := fun e z => by rw [z, hC] at e; cases e
  refine ⟨fun b o e n hb hx => (hs.2 b (ne e)).trans (u.keep b o e n hb hx), fun b o e n hb hx => ?_, u.free, fun b o e hx => ?_, u.tups, u.frzs, u.tbls⟩
  · obtain ⟨sl, z⟩ := u.slot b o e n hb hx
    exact ⟨sl, (hs.2 b (ne e)).trans z⟩
  · obtain ⟨o', z⟩ := u.there b o e hx
    exact ⟨o', (hs.2 b (ne e)).trans z⟩
theorem HOk.same {P : Program} {w : World} {H : Hp} {h h' : Heap} {C : Addr} (x : HOk P w H h) (hs : Heap.SameBut C h h') (hC : H C = none) : HOk P w H h' :=
  x.trk fun b u hb q => (hs.2 b fun z => hb (by rw [z]; exact hC)).trans q

theorem lookup_relabel {env : Env} {k : NameKind} : ∀ {names : List (Str × NameKind)} {x : Str}, (names.map fun (n, k) => if (k == NameKind.free && env.scope.kind == .function && env.kindOf n == some .cell) then (n, NameKind.cell) else (n, k)).lookup x = some k →
    ∃ k0, names.lookup x = some k0 ∧ (k0 = k ∨ (k0 = .free ∧ k = .cell))
  | [], _, h => by simp at h
  | (n, k0) :: r, x, h => by
    have ih := @lookup_relabel env k r x
    rw [List.map_cons] at h
    dsimp only at h
    rw [List.lookup_cons]
    by_cases hc : (k0 == NameKind.free && env.scope.kind == .function && env.kindOf n == some .cell) = true
    · have hk0 : k0 = .free := by
        simp only [Bool.and_eq_true, beq_iff_eq] at hc
        exact hc.1.1
      rw [show (if (k0 == NameKind.free && env.scope.kind == .function && env.kindOf n == some .cell) = true then (n, NameKind.cell) else (n, k0)) = (n, NameKind.cell) from if_pos hc, List.lookup_cons] at h
      cases hx : (x == n) with
      | true =>
        rw [hx] at h
        exact ⟨k0, rfl, .inr ⟨hk0, (Option.some.inj h).symm⟩⟩
      | false =>
        rw [hx] at h
        exact ih h
    · rw [show (if (k0 == NameKind.free && env.scope.kind == .function && env.kindOf n == some .cell) = true then (n, NameKind.cell) else (n, k0)) = (n, k0) from if_neg hc, List.lookup_cons] at h
      cases hx : (x == n) with
      | true =>
        rw [hx] at h
        exact ⟨k0, rfl, .inl (Option.some.inj h)⟩
      | false =>
        rw [hx] at h
        exact ih h
theorem mem_of_lk {κ α : Type} [BEq κ] [LawfulBEq κ] {x : κ} {a : α} : ∀ {l : List (κ × α)}, l.lookup x = some a → (x, a) ∈ l
  | [], h => by cases h
  | (y, b) :: r, h => by
    rw [List.lookup_cons] at h
    cases hx : (x == y) with
    | true =>
      rw [hx] at h
      cases h
      rw [beq_iff_eq.mp hx]
      exact List.mem_cons_self
    | false =>
      rw [hx] at h
      exact List.mem_cons_of_mem _ (mem_of_lk h)
structure ScOk (sc sc0 : Scope) (N NB ts : List Str) : Prop where
  kind : sc.kind = .function
  nocell : ∀ p ∈ sc.names, p.2 ≠ .cell
  loc : ∀ p ∈ sc.names, p.2 = .local → sc.names.lookup p.1 = some .local
  locN : ∀ (i : Nat) (x : Str), i < N.length → NB[i]? = some x → sc.names.lookup x ≠ some .local
  free : ∀ p ∈ sc.names, p.2 = .free → sc0.names.lookup p.1 = some .cell ∨ sc0.names.lookup p.1 = some .free
  same : ∀ (i : Nat) (x : Str), i < N.length → NB[i]? = some x → sc.names.lookup x = some .free → N[i]? = some x
  len : NB.length = N.length + ts.length
noncomputable def scOkB (sc sc0 : Scope) (N NB ts : List Str) : Bool := (sc.kind == .function) && sc.names.all (fun p => (p.2 != .cell) && (p.2 != .local || sc.names.lookup p.1 == some .local) && (p.2 != .free || sc0.names.lookup p.1 == some .cell || sc0.names.lookup p.1 == some .free)) &&
  (List.range N.length).all (fun i => match NB[i]? with | none => true | some x => (sc.names.lookup x != some .local) && (sc.names.lookup x != some .free || N[i]? == some x)) && (NB.length == N.length + ts.length)
theorem ScOk.of {sc sc0 : Scope} {N NB ts : List Str} (h : scOkB sc sc0 N NB ts = true) : ScOk sc sc0 N NB ts := by
  unfold scOkB at h
  simp only [Bool.and_eq_true, List.all_eq_true, beq_iff_eq, List.mem_range, Bool.or_eq_true, bne_iff_ne, ne_eq] at h
  obtain ⟨⟨⟨h1, h2⟩, h3⟩, h4⟩ := h
  refine ⟨h1, fun p hp => (h2 p hp).1.1, fun p hp e => ((h2 p hp).1.2).resolve_left fun z => z e, fun i x hi e => ?_, fun p hp e => ?_, fun i x hi e f => ?_, h4⟩
  · have z := h3 i hi
    rw [e] at z
    simp only [Bool.and_eq_true, bne_iff_ne, ne_eq] at z
    exact z.1
  · rcases (h2 p hp).2 with (z | z) | z
    · exact absurd e z
    · exact .inl z
    · exact .inr z
  · have z := h3 i hi
    rw [e] at z
    simp only [Bool.and_eq_true, bne_iff_ne, ne_eq, Bool.or_eq_true, beq_iff_eq] at z
    exact z.2.resolve_left fun q => q f
theorem pe_comp {X : Cx} {elt tg iter : Expr} {ifs : List Expr} {sc sc0 : Scope} {pos : Pos} {N NB ts : List Str} {wi : TI} {g : TG} {c : TC} {tif : TT} {te : TE} (hc : X.calm = true) (hsc : X.env.scope = sc0) (hXN : X.N = N) (S : ScOk sc sc0 N NB ts)
    (hi : PI X tg iter wi) (ht : Takes g c N.length ts.length)
    (hg : ∀ (C : Addr) (s₁ : Shared) (H₁ : Hp) (pn : List (Addr × Obj)) (fp : List Addr), PG (X.blk sc C s₁ H₁ pn fp NB) tg g)
    (hf : ∀ (C : Addr) (s₁ : Shared) (H₁ : Hp) (pn : List (Addr × Obj)) (fp : List Addr), PIf (X.blk sc C s₁ H₁ pn fp NB) ifs tif)
    (he : ∀ (C : Addr) (s₁ : Shared) (H₁ : Hp) (pn : List (Addr × Obj)) (fp : List Addr), PE (X.blk sc C s₁ H₁ pn fp NB) elt te)
    (hs : ∀ x, foldedSetIterable iter X.env x = pure x := by intro _; rfl) : PE X (.ListComp elt [⟨tg, iter, ifs, 0⟩] sc pos) (tComp wi c tif te) := by
  intro pins s σ H Q I h
  rw [eval_ListComp]
  have hcell : ∀ p ∈ sc.names, p.2 = .free → ∃ c, X.env.cells.lookup p.1 = some c := fun p hp e => by
    have k := S.free p hp e
    refine I.ok.has p.1 ?_
    show X.env.scope.names.lookup p.1 = some .cell ∨ X.env.scope.names.lookup p.1 = some .free
    rw [hsc]
    exact k
  have hclm : ∀ y c, (clOf X.env sc.names []).lookup y = some c → X.env.cells.lookup y = some c := fun y c e => clOf_mem hcell (fun _ _ z => by cases z) e
  refine wpAny_comprehension_free (use := none) rfl hs (closureFor_cl hcell) S.kind S.loc ?_
  refine thn (hi pins s σ H _ I h) fun v s1 h1 => thn h1 fun itv s2 h2 => ?_
  obtain ⟨it, fp, tn, J, H2, e, I2, T, st2, f2, q2⟩ := h2
  subst e
  have hσ : σ.length = N.length := by rw [I2.len, hXN]
  have fa : H2 s2.heap.objs.size = none := I2.hok.fresh (Nat.le_refl _)
  obtain ⟨W, ⟨m0, w0⟩, turn⟩ := q2 s2.heap.objs.size fa
  refine wpAny_newObj_type (wpAny_newFunctionEnv S.nocell (by intro y hy; simp at hy) (fun h₁ hns₁ hsb₁ => ?_) S.kind)
  dsimp only at hns₁ hsb₁ ⊢
  generalize hH2 : s2.heap.push { cls := .type "list", dict := none, data := .seq ([] : List Value).toArray } = hp2 at hns₁ hsb₁ ⊢
  have hC : hp2.objs.size = s2.heap.objs.size + 1 := by rw [← hH2, Heap.size_push]
  have old : ∀ b o, s2.heap.get? b = some o → h₁.get? b = some o := fun b o e => hsb₁.extBut b o (by rw [hC]; exact Nat.ne_of_lt (Nat.lt_succ_of_lt (Heap.lt_size e))) (Heap.get?_push_of_some _ (hH2 ▸ Heap.get?_push_of_some _ e))
  have hacc : h₁.get? s2.heap.objs.size = some { cls := .type "list", dict := none, data := .seq ([] : List Value).toArray } := hsb₁.extBut _ _ (by rw [hC]; exact Nat.ne_of_lt (Nat.lt_succ_self _)) (Heap.get?_push_of_some _ (hH2 ▸ Heap.get?_push_size _ rfl))
  have nC : s2.heap.get? hp2.objs.size = none := by
    cases q : s2.heap.get? hp2.objs.size with
    | none => rfl
    | some o => exact absurd (Nat.lt_trans (Nat.lt_succ_self _) (hC ▸ Heap.lt_size q)) (Nat.lt_irrefl _)
  have stkM : ∀ b, b ∈ frs X.stack → b = X.env.locals ∨ b ∈ X.fs := fun b hb => List.mem_cons.mp (I2.stkSub b hb)
  have ltO : ∀ {b o}, s2.heap.get? b = some o → b ≠ s2.heap.objs.size ∧ b ≠ hp2.objs.size := fun e => ⟨Nat.ne_of_lt (Heap.lt_size e), by rw [hC]; exact Nat.ne_of_lt (Nat.lt_succ_of_lt (Heap.lt_size e))⟩
  have okY : (X.blk sc hp2.objs.size s2 H2 (X.pn ++ pins) fp NB).Ok := by
    refine ⟨I2.ok.mod, ?_, I2.ok.glob, I2.ok.blt, ?_, fun x y c h1 h2 => I2.ok.inj x y c (hclm _ _ h1) (hclm _ _ h2), fun x hx => ?_, fun x c h => ?_, I2.ok.hd, I2.ok.frames, .inl rfl, fun b hb => ?_, I2.bs, Nat.le_trans I2.ok.bsz I2.sz, fun b o e hb => ?_, fun b hb hm => ?_, I2.stack, I2.stkFree⟩
    · show (relabel sc X.env).kind = .function
      exact S.kind
    · show s2.heap.objs.size ≤ hp2.objs.size
      rw [hC]
      exact Nat.le_succ _
    · have hx' : ∃ k, ((relabel sc X.env).names.lookup x = some k) ∧ (k = .cell ∨ k = .free) := hx.elim (fun z => ⟨_, z, .inl rfl⟩) fun z => ⟨_, z, .inr rfl⟩
      obtain ⟨k, hk, hkk⟩ := hx'
      obtain ⟨k0, e0, r0⟩ := lookup_relabel hk
      have hfree : k0 = .free := by
        have m0 := mem_of_lk e0
        have nc := S.nocell _ m0
        rcases r0 with r0 | ⟨r0, _⟩
        · subst r0
          rcases hkk with z | z
          · exact absurd z nc
          · exact z
        · exact r0
      subst hfree
      have z := clOf_has (env := X.env) (acc := []) (mem_of_lk e0)
      exact Option.isSome_iff_exists.mp z
    · cases h
    · obtain ⟨f0, f1, f3, f4, f5, f6⟩ := f2 b hb
      obtain ⟨o, eo, _⟩ := T.obj 0 s2.heap st2 b hb
      exact ⟨(ltO eo).2, fun x c e => f5 x c (hclm x c e)⟩
    · obtain ⟨f0, f1, f3, f4, f5, f6⟩ := f2 b hb
      rcases f4 with z | z
      · exact I2.ok.noex b o e z
      · exact absurd (Nat.lt_of_lt_of_le (Heap.lt_size e) (Nat.le_trans I2.ok.bsz z)) (Nat.lt_irrefl _)
    · obtain ⟨f0, f1, f3, f4, f5, f6⟩ := f2 b hb
      rcases stkM b hm with z | z
      · exact f1 z
      · exact f3 z
  have IY : Inv (X.blk sc hp2.objs.size s2 H2 (X.pn ++ pins) fp NB) [] (σ ++ List.replicate ts.length none) (upd H2 s2.heap.objs.size (.lst [])) { s2 with heap := h₁, toks := s2.toks + ([] : List (Str × Value)).length } := by
    refine ⟨okY, rfl, I2.bare, Un.laid old (Nat.le_refl _) fa, ⟨_, hns₁, fun i x v e1 e2 e3 => ?_⟩, fun x c e => ?_, ?_, fun x c e => ?_, fun p hp => ?_, ?_, ?_⟩
    · have hiN : i < N.length := by
        by_cases z : i < N.length
        · exact z
        · rw [List.getElem?_append_right (by omega), List.getElem?_replicate] at e2
          split at e2 <;> cases e2
      rw [List.getElem?_append_left (by omega)] at e2
      have e3' : ∃ k, (relabel sc X.env).names.lookup x = some k := e3.elim (fun z => ⟨_, z⟩) fun z => z.elim (fun z => ⟨_, z⟩) fun z => ⟨_, z⟩
      obtain ⟨k, hk⟩ := e3'
      obtain ⟨k0, e0, r0⟩ := lookup_relabel hk
      have m0 := mem_of_lk e0
      have hfree : k0 = .free := by
        have nl := S.locN i x hiN e1
        have nc := S.nocell _ m0
        have kk : k = .local ∨ k = .cell ∨ k = .free := by
          rcases e3 with z | z | z
          · exact .inl (Option.some.inj (hk.symm.trans z))
          · exact .inr (.inl (Option.some.inj (hk.symm.trans z)))
          · exact .inr (.inr (Option.some.inj (hk.symm.trans z)))
        rcases r0 with r0 | ⟨r0, _⟩
        · subst r0
          rcases kk with z | z | z
          · exact absurd (by rw [e0, z]) nl
          · exact absurd z nc
          · exact z
        · exact r0
      subst hfree
      have eN := S.same i x hiN e1 e0
      have hkX := S.free _ m0 rfl
      have kX : X.env.kindOf x = some .cell ∨ X.env.kindOf x = some .free := by
        show X.env.scope.names.lookup x = some .cell ∨ X.env.scope.names.lookup x = some .free
        rw [hsc]
        exact hkX
      obtain ⟨m, hn, hl⟩ := I2.loc
      obtain ⟨u, ru, lk⟩ := hl i x v (by rw [hXN]; exact eN) e2 (.inr kX)
      refine ⟨u, ru, .inr ⟨?_, ?_⟩⟩
      · rcases r0 with r0 | ⟨_, r0⟩
        · exact .inr (by show (relabel sc X.env).names.lookup x = some .free; rw [hk, ← r0])
        · exact .inl (by show (relabel sc X.env).names.lookup x = some .cell; rw [hk, r0])
      · obtain ⟨c, hcl⟩ := Option.isSome_iff_exists.mp (clOf_has (env := X.env) (acc := []) m0)
        refine ⟨c, hcl, ?_⟩
        rcases lk with ⟨z, _⟩ | ⟨_, c', ec, z⟩
        · rcases kX with k | k
          · rw [z] at k; cases k
          · rw [z] at k; cases k
        · have z2 := hclm x c hcl
          rw [ec] at z2
          cases z2
          exact z.keeps old
    · obtain ⟨v, z⟩ := I2.cell x c (hclm x c e)
      exact ⟨v, z.keeps old⟩
    · show upd H2 s2.heap.objs.size (.lst []) hp2.objs.size = none
      rw [upd_ne (by rw [hC]; exact Nat.ne_of_gt (Nat.lt_succ_self _))]
      exact I2.hok.fresh (by rw [hC]; exact Nat.le_succ _)
    · obtain ⟨v, z⟩ := I2.cell x c (hclm x c e)
      rw [upd_ne (Nat.ne_of_lt z.lt)]
      exact I2.freeC x c (hclm x c e)
    · obtain ⟨e, n, ne, nf, d⟩ := I2.pin p (by simpa using hp)
      refine ⟨old _ _ e, by rw [upd_ne (ltO e).1]; exact n, (ltO e).2, fun hm => ?_, d⟩
      rcases stkM _ hm with z | z
      · exact ne z
      · exact nf z
    · exact I2.hok.laid old (Nat.le_refl _) ⟨Nat.zero_le _, [], 0, .nil, hacc⟩
    · show (σ ++ List.replicate ts.length none).length = NB.length
      rw [List.length_append, List.length_replicate, hσ, S.len]
  have stat : ∀ {H' : Hp}, (∀ b ∈ fp, H' b = none) → ∀ b ∈ fp, FpOk (X.blk sc hp2.objs.size s2 H2 (X.pn ++ pins) fp NB) [] H' b := fun hn b hb => by
    obtain ⟨f0, f1, f3, f4, f5, f6⟩ := f2 b hb
    obtain ⟨o, eo, _⟩ := T.obj 0 s2.heap st2 b hb
    exact ⟨hn b hb, (ltO eo).2, fun hm => (stkM b hm).elim f1 f3, .inl hb, fun x c e => f5 x c (hclm x c e), fun p hp => f6 p (by simpa using hp)⟩
  have fpn : ∀ b ∈ fp, upd H2 s2.heap.objs.size (.lst []) b = none := fun b hb => by
    obtain ⟨o, eo, _⟩ := T.obj 0 s2.heap st2 b hb
    rw [upd_ne (ltO eo).1]
    exact (f2 b hb).1
  have loop : codeAny (model X.prog X.w) X.A (.compLoop (.ListComp elt [⟨tg, iter, ifs, 0⟩] sc pos) 0 (.ref it) (.ref s2.heap.objs.size) (compEnvC sc (clOf X.env sc.names []) hp2.objs.size X.env))
      (compPost (model X.prog X.w) X.A X.xe none (EP X pins σ Q) (.ref s2.heap.objs.size) hp2.objs.size) { s2 with heap := h₁, toks := s2.toks + ([] : List (Str × Value)).length } := by
    refine comp_loop (fun n s' => ∃ i ys tl H', tl.length = ts.length ∧ Inv (X.blk sc hp2.objs.size s2 H2 (X.pn ++ pins) fp NB) [] (σ ++ tl) H' s' ∧ tn i s'.heap ∧ (∀ b ∈ fp, H' b = none) ∧ W i n ys H') ?_ m0
      ⟨0, [], List.replicate ts.length none, _, by simp, IY, T.keep _ _ _ st2 (fun b hb o e => old b o e), fpn, w0⟩
    rintro n s3 ⟨i, ys, tl, H3, htl, I3, st3, fr3, w3⟩
    rcases turn i n ys H3 w3 with ⟨stop, qn⟩ | ⟨go, step⟩
    · refine thn (T.done (X.blk sc hp2.objs.size s2 H2 (X.pn ++ pins) fp NB) rfl rfl rfl hc i [] s3 _ H3 _ I3 (stat fr3) st3 stop) fun r s4 ⟨hr, I4⟩ => ?_
      subst hr
      obtain ⟨m, hn, _⟩ := id I4.loc
      refine ⟨m, hn, fun h' hsb => ?_⟩
      refine ⟨.ref s2.heap.objs.size, H3, ?_, rfl, qn⟩
      refine I2.call' (s' := { s4 with heap := h' }) (ch := fp) I4.os (I4.base.same hsb nC) (I4.hok.same hsb I4.free) I4.bare fun b hb => ?_
      obtain ⟨f0, f1, f3, f4, f5, f6⟩ := f2 b hb
      exact ⟨f4, f1, f5, f6⟩
    · refine thn (T.item (X.blk sc hp2.objs.size s2 H2 (X.pn ++ pins) fp NB) rfl rfl rfl hc i [] s3 _ H3 _ I3 (stat fr3) st3 go) fun r s4 ⟨u, hr, h4⟩ => ?_
      subst hr
      refine thn h4 fun _ s5 ⟨x, H5, I5, r5, y5, st5, fr5⟩ => ?_
      have I5' := I5.pinned (stat fr5) (T.obj _ _ st5)
      have again : ∀ {H7 : Hp} {s7 : Shared} {xs : List V} {ys' : List V} {m' : Nat}, xs.length = ts.length → Inv (X.blk sc hp2.objs.size s2 H2 (X.pn ++ pins) fp NB) ([] ++ pinsAt fp s5.heap) (σ ++ xs.map some) H7 s7 → m' < n → W (i + 1) m' ys' H7 →
          ∃ m, m < n ∧ ∃ i ys tl H', tl.length = ts.length ∧ Inv (X.blk sc hp2.objs.size s2 H2 (X.pn ++ pins) fp NB) [] (σ ++ tl) H' s7 ∧ tn i s7.heap ∧ (∀ b ∈ fp, H' b = none) ∧ W i m ys H' := fun {H7 s7 xs ys' m'} hxs I7 hm w7 => by
        refine ⟨m', hm, i + 1, ys', xs.map some, H7, by rw [List.length_map]; exact hxs, I7.unpinned, T.keep _ _ _ st5 fun b hb o e => (I7.pin (b, o) (List.mem_append_right _ (List.mem_append_right _ (mem_pinsAt hb e)))).1, fun b hb => ?_, w7⟩
        obtain ⟨o, e, d⟩ := T.obj _ _ st5 b hb
        exact (I7.pin (b, o) (List.mem_append_right _ (List.mem_append_right _ (mem_pinsAt hb e)))).2.1
      refine thn (hg _ _ _ _ _ _ s5 (σ ++ tl) H5 x u _ I5' r5 (ht σ tl x H5 _ hσ htl (step x H5 y5))) fun _ s6 ⟨σ6, H6, I6, xs, hxs, e6, e7, q6⟩ => ?_
      subst e6 e7
      refine thn (hf _ _ _ _ _ _ s6 _ _ _ I6 q6) fun b s7 ⟨H7, I7, q7⟩ => ?_
      cases b with
      | false =>
        obtain ⟨m', hm, w7⟩ := q7
        exact again hxs I7 hm w7
      | true =>
        refine thn (he _ _ _ _ _ _ s7 _ _ _ I7 q7) fun y s8 ⟨v, H8, I8, r8, e8, l8, m', hm, w8⟩ => ?_
        refine thn (mt_append (X := X.blk sc hp2.objs.size s2 H2 (X.pn ++ pins) fp NB) _ s8 _ H8 (.ref s2.heap.objs.size) [v] (.ref s2.heap.objs.size) [y] (fun z H9 => z = .non ∧ H9 = upd H8 s2.heap.objs.size (.lst (ys ++ [v]))) I8 rfl (.cons r8 .nil) ⟨_, ys, v, rfl, rfl, e8, l8, rfl, rfl⟩) fun z s9 ⟨v9, H9, I9, r9, e9, e10⟩ => ?_
        subst e10
        exact again hxs I9 hm w8
  exact codeAny_compStart_list loop (T.self X.A 0 _ _ _ (T.keep _ _ _ st2 fun b hb o e => old b o e) loop)
end L2

set_option Elab.async false
set_option linter.all false
set_option maxRecDepth 100000
set_option maxHeartbeats 4000000
/-! Own rules over the hand layer, part 4: sum, all, max of tuples, == of lists, f-strings. -/
namespace L2
open PySem PySem.Spec PyProof.Rows
section
variable {X : Cx}
theorem all_range (bs : List Bool) : (List.range bs.length).all (fun i => bs.getD i false) = bs.all id := by
  induction bs with
  | nil => rfl
  | cons b r ih =>
    rw [List.length_cons, List.range_succ_eq_map, List.all_cons, List.all_map, List.all_cons, ← ih]
    rfl
theorem call_allL (hc : X.calm = true) : CallR X (.builtin "all") (fun xs H Q => ∃ (p : Addr) (bs : List Bool), xs = [.ref p] ∧ SqL X.K H p (bs.map V.bl) ∧ Q (.bl (bs.all id)) H) := by
  intro pins s σ H xs us Q I r h
  obtain ⟨p, bs, rfl, hp, q⟩ := h
  obtain ⟨u, rfl, ru⟩ := vals1 r
  cases ru
  obtain ⟨its, rv, pl, hz⟩ := I.list hp
  have hl := pl.isList
  have hlt : p < s.heap.objs.size := by obtain ⟨_, e, _⟩ := hl; exact Heap.lt_size e
  have hlen : its.length = bs.length := by have := rv.length; rw [List.length_map] at this; omega
  refine call_all_walk (wpAny_pyIter_list hl ?_)
  refine ⟨s.heap.objs.size, _, _, _, _, _, fun i => bs.getD i false, rfl, Walks.list (A := X.A.in1) (I.ok.hd hc) s.heap.objs.size p (Nat.ne_of_lt hlt) its.toArray, ⟨⟨_, Heap.get?_push_size _ rfl, rfl, rfl⟩, hl.push _⟩, ?_, ?_⟩
  · intro i v s1 Q1 E1 hv hq
    have hv' : its[i]? = some v := by simpa using hv
    have hi : i < bs.length := by have := (List.getElem?_eq_some_iff.mp hv').1; omega
    have hb : (bs.map V.bl)[i]? = some (.bl bs[i]) := by rw [List.getElem?_map, List.getElem?_eq_getElem hi]; rfl
    obtain ⟨u, hu, ru⟩ := rv.get hb
    rw [hv'] at hu
    cases hu
    cases (show v = Value.bool bs[i] from ru)
    have e : bs.getD i false = bs[i] := by rw [List.getD_eq_getElem?_getD, List.getElem?_eq_getElem hi]; rfl
    have hq' : Q1 bs[i] s1 := by rw [← e]; exact hq
    exact wpAny_truthy_bool hq'
  · intro h' tk hk
    refine ⟨.bl (bs.all id), H, I.kept (t' := tk) fun b o e => hk b o (fun hm => absurd (List.mem_singleton.mp hm) (Nat.ne_of_lt (Heap.lt_size e))) (Heap.get?_push_of_some _ e), ?_, q⟩
    rw [List.size_toArray, hlen, all_range]
    rfl
end

/-! ### == and != of two lists: flat items, or the very same objects -/
noncomputable def okP : V → V → Bool
  | .ref a, .ref b => a == b
  | x, y => flatV x && flatV y
noncomputable def resP : V → V → Bool
  | .ref _, .ref _ => true
  | x, y => eqV x y
noncomputable def okVs : List V → List V → Bool
  | x :: xs, y :: ys => okP x y && okVs xs ys
  | _, _ => true
noncomputable def eqVs : List V → List V → Bool
  | [], [] => true
  | x :: xs, y :: ys => resP x y && eqVs xs ys
  | _, _ => false
theorem okVs_at : ∀ {xs ys : List V} {i : Nat} {x y : V}, okVs xs ys = true → xs[i]? = some x → ys[i]? = some y → okP x y = true
  | [], _, i, _, _, _, h, _ => by simp at h
  | _ :: _, [], i, _, _, _, _, h => by simp at h
  | _ :: _, _ :: _, 0, _, _, h, h1, h2 => by
    simp at h1 h2
    subst h1 h2
    unfold okVs at h
    exact (Bool.and_eq_true_iff.mp h).1
  | _ :: xs, _ :: ys, i + 1, _, _, h, h1, h2 => by
    unfold okVs at h
    exact okVs_at (i := i) (Bool.and_eq_true_iff.mp h).2 (by simpa using h1) (by simpa using h2)
theorem eqVs_range : ∀ {xs ys : List V}, xs.length = ys.length → (List.range xs.length).all (fun i => resP (xs.getD i .non) (ys.getD i .non)) = eqVs xs ys
  | [], [], _ => rfl
  | x :: xs, y :: ys, h => by
    have ih := eqVs_range (xs := xs) (ys := ys) (by simpa using h)
    rw [List.length_cons, List.range_succ_eq_map, List.all_cons, List.all_map]
    show (resP x y && _) = (resP x y && eqVs xs ys)
    rw [← ih]
    rfl
theorem eqVs_len : ∀ {xs ys : List V}, xs.length ≠ ys.length → eqVs xs ys = false
  | [], [], h => absurd rfl h
  | [], _ :: _, _ => rfl
  | _ :: _, [], _ => rfl
  | x :: xs, y :: ys, h => by
    show (resP x y && eqVs xs ys) = false
    rw [eqVs_len (xs := xs) (ys := ys) (by simpa using h), Bool.and_false]
theorem eqP_at {A : Around} {s : Shared} {x y : V} {u v : Value} (rx : RelV x u) (ry : RelV y v) (h : okP x y = true) : SeqAt.EqAt A s u v (resP x y) := by
  by_cases hr : ∃ a b, x = .ref a ∧ y = .ref b
  · obtain ⟨a, b, rfl, rfl⟩ := hr
    have e : a = b := beq_iff_eq.mp h
    subst e
    cases (show u = Value.ref a from rx)
    cases (show v = Value.ref a from ry)
    exact SeqAt.EqAt.same _
  · have h1 : okP x y = (flatV x && flatV y) := by
      cases x <;> cases y <;> first | rfl | exact absurd ⟨_, _, rfl, rfl⟩ hr
    have h2 : resP x y = eqV x y := by
      cases x <;> cases y <;> first | rfl | exact absurd ⟨_, _, rfl, rfl⟩ hr
    rw [h1] at h
    have hf := Bool.and_eq_true_iff.mp h
    rw [h2]
    exact eqAt_V rx ry hf.1 hf.2
noncomputable def rEqL (K : PySem.W.Frag) (neg : Bool) : R2 := fun x y H Q => ∃ a b xs ys, x = .ref a ∧ y = .ref b ∧ SqL K H a xs ∧ SqL K H b ys ∧ okVs xs ys = true ∧ Q (.bl (if neg then !eqVs xs ys else eqVs xs ys)) H
section
variable {X : Cx}
theorem op_eq_list (hu : X.A.units < cLine) : OpR X (compareOp .Eq) (rEqL X.K false) := by
  intro pins s σ H x y v u Q I rx ry h
  obtain ⟨a, b, xs, ys, rfl, rfl, ha, hb, ok, q⟩ := h
  cases (show v = Value.ref a from rx)
  cases (show u = Value.ref b from ry)
  obtain ⟨is1, r1, p1, z1⟩ := I.list ha
  obtain ⟨is2, r2, p2, z2⟩ := I.list hb
  have l1 := r1.length
  have l2 := r2.length
  by_cases hl : xs.length = ys.length
  · refine SeqAt.eq_listAt (e := fun i => resP (xs.getD i .non) (ys.getD i .non)) p1.isList p2.isList (by simp; omega) hu (fun j h1 h2 => ?_) ⟨.bl (eqVs xs ys), H, I, ?_, q⟩
    · have j1 : j < xs.length := by simp at h1; omega
      have j2 : j < ys.length := by omega
      obtain ⟨u1, e1, w1⟩ := r1.get (List.getElem?_eq_getElem j1)
      obtain ⟨u2, e2, w2⟩ := r2.get (List.getElem?_eq_getElem j2)
      have g1 : xs.getD j .non = xs[j] := by rw [List.getD_eq_getElem?_getD, List.getElem?_eq_getElem j1]; rfl
      have g2 : ys.getD j .non = ys[j] := by rw [List.getD_eq_getElem?_getD, List.getElem?_eq_getElem j2]; rfl
      have k1 : is1.toArray[j] = u1 := by
        have := (List.getElem?_eq_some_iff.mp e1).2
        simpa using this
      have k2 : is2.toArray[j] = u2 := by
        have := (List.getElem?_eq_some_iff.mp e2).2
        simpa using this
      rw [k1, k2, g1, g2]
      exact eqP_at w1 w2 (okVs_at ok (List.getElem?_eq_getElem j1) (List.getElem?_eq_getElem j2))
    · rw [List.size_toArray, ← l1, eqVs_range hl]
      rfl
  · refine SeqAt.eq_list_lengthsAt p1.isList p2.isList (by simp; omega) hu ⟨.bl false, H, I, rfl, ?_⟩
    rw [if_neg (by decide), eqVs_len hl] at q
    exact q
end

/-! ### f-strings whose text is not asked for -/
noncomputable def PJs (X : Cx) (es : List Expr) (t : St → Hp → (Hp → Prop) → Prop) : Prop :=
  ∀ (pins : List (Addr × Obj)) (s : Shared) (σ : St) (H : Hp) (Q : Hp → Prop) (out : Str), Inv X pins σ H s → out.length + es.length * 100000 ≤ sizeLine → t σ H Q →
    wpAny (model X.prog X.w) X.A (joinParts out (evalEach es X.env)) (fun u s' => ∃ z H', RelV (.str z) u ∧ Inv X pins σ H' s' ∧ Q H') X.xe s
section
variable {X : Cx} {e e1 e2 : Expr} {es : List Expr} {te : TE} {t : St → Hp → (Hp → Prop) → Prop} {pos : Pos}
theorem pj_nil : PJs X [] (fun _ H Q => Q H) := fun pins s σ H Q out I hz h => joinParts_nil ⟨out, H, ⟨_, rfl⟩, I.tok _, h⟩ (by simp at hz; exact hz)
theorem pj_cons (he : PE X e te) (hr : PJs X es t) : PJs X (e :: es) (fun σ H Q => te σ H fun v H1 => ∃ z, v = .str z ∧ z.length ≤ 100000 ∧ t σ H1 Q) := by
  intro pins s σ H Q out I hz h
  rw [List.length_cons] at hz
  refine joinParts_cons (thn (he pins s σ H _ I h) fun u s1 ⟨v, H1, I1, r, z, e, hl, q⟩ => ?_)
  subst e
  obtain ⟨tk, rfl⟩ := r
  have ha : (out ++ z).length = out.length + z.length := strLen_append ..
  exact ⟨by omega, hr pins s1 σ H1 Q (out ++ z) I1 (by omega) q⟩
theorem pe_join (h : PJs X (e1 :: e2 :: es) t) (hz : (e1 :: e2 :: es).length * 100000 ≤ sizeLine := by decide) : PE X (.JoinedStr (e1 :: e2 :: es) pos) (fun σ H Q => t σ H fun H1 => ∀ z, Q (.str z) H1) := by
  intro pins s σ H Q I hq
  refine JoinedStr_many (thn (h pins s σ H _ Str.empty I (by show 0 + _ ≤ _; omega) hq) fun u s1 ⟨z, H1, r, I1, q⟩ => ?_)
  exact ⟨.str z, H1, I1, r, q z⟩
theorem pe_fmtI (he : PE X e te) : PE X (.FormattedValue e (-1) none pos) (fun σ H Q => te σ H fun v H1 => ∃ i, v = .int i ∧ -(2 ^ 64) < i ∧ i < 2 ^ 64 ∧ ∀ z : Str, z.length ≤ 100000 → Q (.str z) H1) := by
  intro pins s σ H Q I h
  refine FormattedValue_plain (thn (he pins s σ H _ I h) fun u s1 ⟨v, H1, I1, r, i, e, h1, h2, q⟩ => ?_)
  subst e
  obtain ⟨tk, rfl⟩ := r
  have hlog : i.natAbs.log2 < 1920 := by
    have h3 : i.natAbs < 2 ^ 64 := by omega
    by_cases h0 : i.natAbs = 0
    · rw [h0]; decide
    · have := (Nat.log2_lt h0).mpr h3
      omega
  exact formatField_int_small hlog ⟨.str _, H1, I1.tok _, ⟨_, rfl⟩, q _ (Nat.le_trans (int_text_len_1921 hlog) (by decide))⟩
theorem pe_fmtS (he : PE X e te) : PE X (.FormattedValue e (-1) none pos) (fun σ H Q => te σ H fun v H1 => ∃ z : Str, v = .str z ∧ z.length ≤ 100000 ∧ Q (.str z) H1) := by
  intro pins s σ H Q I h
  refine FormattedValue_plain (thn (he pins s σ H _ I h) fun u s1 ⟨v, H1, I1, r, z, e, h1, q⟩ => ?_)
  subst e
  obtain ⟨tk, rfl⟩ := r
  exact formatField_str (fun t' tk' => ⟨.str z, H1, I1.tok _, ⟨_, rfl⟩, q⟩) (Nat.le_trans h1 (by decide))
end
end L2

set_option Elab.async false
set_option linter.all false
set_option maxRecDepth 100000
set_option maxHeartbeats 4000000
namespace L2
open PySem PySem.Spec PyProof.Rows

/-! ### other readings of the same rules -/
theorem PE.weak {X : Cx} {e : Expr} {t t' : TE} (h : PE X e t) (w : ∀ σ H Q, t' σ H Q → t σ H Q) : PE X e t' := fun pins s σ H Q I q => h pins s σ H Q I (w σ H Q q)
theorem PS.weak {X : Cx} {st : Stmt} {t t' : TS} (h : PS X st t) (w : ∀ D σ H, t' D σ H → t D σ H) : PS X st t' := fun pins s σ H D I q => h pins s σ H D I (w D σ H q)
noncomputable def sFldC (C : Addr) (f : Str) (ta tv : TE) : TS := fun D σ H => tv σ H fun y H1 => ta σ H1 fun x H2 => ∃ a dx fs, x = .ref a ∧ H2 a = some (.ins C dx fs) ∧ fs.length < 1000 ∧ D.nx σ (upd H2 a (.ins C dx (putF f y fs)))
section
variable {X : Cx} {o e value : Expr} {f : Str} {pos pos' tpos : Pos} {ta tv : TE} {C : Addr}
theorem ps_fldC (c : Cls X.K C) (n : NoAttr X.K C f) (ha : PE X o ta) (hv : PE X value tv) (hs : swapsWith value (some (.Attribute o f pos')) pos.line X.env = pure false := by rfl) : PS X (.Assign [.Attribute o f pos'] value pos) (sFldC C f ta tv) :=
  (ps_fld (pe_cut ha) (pe_cut hv) hs).weak fun D σ H h => ⟨_, h, fun y H1 h1 => ⟨_, h1, fun x H2 ⟨a, dx, fs, e1, e2, e3, q⟩ => ⟨a, C, dx, fs, e1, e2, c, n, e3, q⟩⟩⟩
end

theorem pe_globI {X : Cx} {x : Str} {i : Int} {pos : Pos} (hg : Gl X x) (hm : ∃ t, X.mg x = some (.int i t)) (hd : (x == ("__debug__" : Str)) = false := by decide) : PE X (.Name x pos) (tC (.int i)) := by
  obtain ⟨t, hm⟩ := hm
  exact pe_glob hg hm ⟨t, rfl⟩ hd
section
variable {X : Cx} {o value : Expr} {k : Str} {j : Nat} {p pos pos' : Pos} {td tv : TE}
end

/-! ### max, min as numbers -/
section
variable {X : Cx}
end

/-! ### more of heaps -/
theorem alloc {H : Hp} {o : HO} {Q : Addr → Hp → Prop} (h : ∀ H' p, H p = none → Same H H' → H' p = some o → Q p H') : ∀ p, H p = none → Q p (upd H p o) := fun p n => h _ p n (Same.new n o) upd_same
theorem at_ne {H : Hp} {a b : Addr} {o x : HO} (h : b ≠ a) (e : H b = some x) : upd H a o b = some x := (upd_ne h).trans e
theorem at_new {H : Hp} {a p : Addr} {o x : HO} (n : H p = none) (e : H a = some x) : upd H p o a = some x := Same.new n o _ _ e
theorem at_same {H H' : Hp} {a : Addr} {x : HO} (s : Same H H') (e : H a = some x) : H' a = some x := s _ _ e
theorem sl_at {K : PySem.W.Frag} {H : Hp} {a : Addr} {xs : List V} (e : H a = some (.lst xs)) : SqL K H a xs := SqL.of e
theorem sl_new {K : PySem.W.Frag} {H : Hp} {a p : Addr} {o : HO} {xs : List V} (n : H p = none) (e : SqL K H a xs) : SqL K (upd H p o) a xs := (Same.new n o).seq e
theorem sl_same {K : PySem.W.Frag} {H H' : Hp} {a : Addr} {xs : List V} (s : Same H H') (e : SqL K H a xs) : SqL K H' a xs := s.seq e
theorem st_at {K : PySem.W.Frag} {H : Hp} {a : Addr} {xs : List V} (e : H a = some (.tup xs)) : SqT K H a xs := SqT.of e
theorem st_new {K : PySem.W.Frag} {H : Hp} {a p : Addr} {o : HO} {xs : List V} (n : H p = none) (e : SqT K H a xs) : SqT K (upd H p o) a xs := (Same.new n o).tup e
theorem st_same {K : PySem.W.Frag} {H H' : Hp} {a : Addr} {xs : List V} (s : Same H H') (e : SqT K H a xs) : SqT K H' a xs := s.tup e
theorem Same.refl' {H : Hp} : Same H H := fun _ _ h => h
theorem Same.mut {H H2 : Hp} {e : Addr} {o : HO} (s : Same H H2) (n : H e = none) : Same H (upd H2 e o) := fun b u q => by
  rw [upd_ne (ne_of_none q n)]
  exact s b u q
theorem SqL.updNe {K : PySem.W.Frag} {H : Hp} {a b : Addr} {o : HO} {xs : List V} (h : SqL K H a xs) (ne : a ≠ b) : SqL K (upd H b o) a xs := by
  rcases h with h | h
  · refine .inl ?_
    rcases h with h | ⟨ob, h⟩
    · exact .inl (by rw [upd_ne ne]; exact h)
    · exact .inr ⟨ob, by rw [upd_ne ne]; exact h⟩
  · exact .inr h
theorem sl_ne {K : PySem.W.Frag} {H : Hp} {a b : Addr} {o : HO} {xs : List V} (ne : a ≠ b) (h : SqL K H a xs) : SqL K (upd H b o) a xs := h.updNe ne
theorem SqT.updNe {K : PySem.W.Frag} {H : Hp} {a b : Addr} {o : HO} {xs : List V} (h : SqT K H a xs) (ne : a ≠ b) : SqT K (upd H b o) a xs := by
  rcases h with h | h
  · refine .inl ?_
    rcases h with h | ⟨ob, h⟩
    · exact .inl (by rw [upd_ne ne]; exact h)
    · exact .inr ⟨ob, by rw [upd_ne ne]; exact h⟩
  · exact .inr h
theorem st_ne {K : PySem.W.Frag} {H : Hp} {a b : Addr} {o : HO} {xs : List V} (ne : a ≠ b) (h : SqT K H a xs) : SqT K (upd H b o) a xs := h.updNe ne
theorem SqT.upd {K : PySem.W.Frag} {H : Hp} {a b : Addr} {o u : HO} {xs : List V} (h : SqT K H a xs) (e : H b = some u) (hu : Mut (some u)) : SqT K (L2.upd H b o) a xs := by
  rcases h with h | h
  · refine .inl ?_
    rcases h with h | ⟨ob, h⟩
    · refine .inl ?_
      rw [upd_ne ?_]
      · exact h
      · intro z
        subst z
        rw [e] at h
        cases h
        exact hu
    · refine .inr ⟨ob, ?_⟩
      rw [upd_ne ?_]
      · exact h
      · intro z
        subst z
        rw [e] at h
        cases h
        exact hu
  · exact .inr h
end L2
namespace L2
open PySem PySem.Spec PyProof.Rows
theorem st_mut {K : PySem.W.Frag} {H : Hp} {a b : Addr} {o u : HO} {xs : List V} (e : H b = some u) (hu : Mut (some u)) (h : SqT K H a xs) : SqT K (L2.upd H b o) a xs := h.upd e hu
/-! ### an instance by a record of its attributes -/
structure Fld {α : Type} (toF : α → List (Str × V)) (f : Str) (g : α → V) (st : α → V → α) : Prop where
  get : ∀ r, (toF r).lookup f = some (g r)
  put : ∀ r y, putF f y (toF r) = toF (st r y)
  few : ∀ r, (toF r).length < 1000
noncomputable def tFldR {α : Type} (C : Addr) (toF : α → List (Str × V)) (g : α → V) (ta : TE) : TE := fun σ H Q => ta σ H fun x H1 => ∃ a dx r, x = .ref a ∧ H1 a = some (.ins C dx (toF r)) ∧ Q (g r) H1
noncomputable def sFldR {α : Type} (C : Addr) (toF : α → List (Str × V)) (st : α → V → α) (ta tv : TE) : TS := fun D σ H => tv σ H fun y H1 => ta σ H1 fun x H2 => ∃ a dx r, x = .ref a ∧ H2 a = some (.ins C dx (toF r)) ∧ D.nx σ (upd H2 a (.ins C dx (toF (st r y))))
section
variable {X : Cx} {o e value : Expr} {f : Str} {pos pos' tpos : Pos} {ta tv : TE} {C : Addr} {α : Type} {toF : α → List (Str × V)} {g : α → V} {st : α → V → α}
theorem pe_fldR (F : Fld toF f g st) (c : Cls X.K C) (n : NoAttr X.K C f) (he : PE X e ta) (hb : attributeBase e f X.env (eval e X.env) = eval e X.env := by rfl) : PE X (.Attribute e f pos) (tFldR C toF g ta) :=
  (pe_fld (pe_cut he) hb).weak fun σ H Q h => ⟨_, h, fun x H1 ⟨a, dx, r, e1, e2, q⟩ => ⟨a, C, dx, toF r, g r, e1, e2, c, n, F.get r, q⟩⟩
theorem ps_fldR (F : Fld toF f g st) (c : Cls X.K C) (n : NoAttr X.K C f) (ha : PE X o ta) (hv : PE X value tv) (hs : swapsWith value (some (.Attribute o f pos')) pos.line X.env = pure false := by rfl) : PS X (.Assign [.Attribute o f pos'] value pos) (sFldR C toF st ta tv) :=
  (ps_fld (pe_cut ha) (pe_cut hv) hs).weak fun D σ H h => ⟨_, h, fun y H1 h1 => ⟨_, h1, fun x H2 ⟨a, dx, r, e1, e2, q⟩ => ⟨a, C, dx, toF r, e1, e2, c, n, F.few r, by rw [F.put]; exact q⟩⟩⟩
end

/-! ### a dict by a record of its items -/
structure Itm {α : Type} (toK : α → List (Key × V)) (k : Str) (g : α → V) (st : α → V → α) : Prop where
  get : ∀ r, valV (toK r) (Sum.inr k : Key) = some (g r)
  put : ∀ r y, putK (toK r) (Sum.inr k : Key) y = toK (st r y)
  few : ∀ r, (toK r).length < sizeLine
section
variable {X : Cx} {o value : Expr} {k : Str} {j : Nat} {p pos pos' : Pos} {td tv : TE} {α : Type} {toK : α → List (Key × V)} {g : α → V} {st : α → V → α}
end
section
variable {X : Cx}
end
/-! ### an item of a written list -/
noncomputable def allInt : List V → Bool
  | [] => true
  | .int _ :: r => allInt r
  | _ :: _ => false
noncomputable def intsOf : List V → List Int
  | [] => []
  | .int i :: r => i :: intsOf r
  | _ :: r => 0 :: intsOf r
theorem intsOf_map : ∀ {xs : List V}, allInt xs = true → xs = (intsOf xs).map V.int
  | [], _ => rfl
  | .int i :: r, h => congrArg (V.int i :: ·) (intsOf_map (xs := r) h)
  | .non :: _, h => nomatch h
  | .bl _ :: _, h => nomatch h
  | .str _ :: _, h => nomatch h
  | .byt _ :: _, h => nomatch h
  | .flt _ :: _, h => nomatch h
  | .ref _ :: _, h => nomatch h
  | .ty _ :: _, h => nomatch h
theorem atI_in {α : Type} {xs : List α} {i : Int} (h0 : 0 ≤ i) (h1 : i < (xs.length : Int)) : ∃ v, v ∈ xs ∧ xs[i.toNat]? = some v ∧ atI xs i = some v := by
  have hk : i.toNat < xs.length := by omega
  refine ⟨xs[i.toNat], List.getElem_mem hk, List.getElem?_eq_getElem hk, ?_⟩
  have q : atI xs ((i.toNat : Nat) : Int) = some xs[i.toNat] := atI_nat (List.getElem?_eq_getElem hk)
  have e : ((i.toNat : Nat) : Int) = i := by omega
  rw [e] at q
  exact q
noncomputable def tMenuV (ta : TA) (tb : TE) : TE := fun σ H Q => ta σ H fun xs H1 => xs.length ≤ sizeLine ∧ ∀ H2, Same H1 H2 → tb σ H2 fun y H3 => H3 = H2 ∧ ∃ i, y = .int i ∧ (0 ≤ i ∧ i < (xs.length : Int)) ∧ ∀ v, v ∈ xs → Q v H2
noncomputable def tMenu (ta : TA) (tb : TE) : TE := fun σ H Q => ta σ H fun xs H1 => xs.length ≤ sizeLine ∧ ∀ H2, Same H1 H2 → tb σ H2 fun y H3 => H3 = H2 ∧ ∃ i, y = .int i ∧ (0 ≤ i ∧ i < (xs.length : Int)) ∧ allInt xs = true ∧ ∀ m, m ∈ intsOf xs → Q (.int m) H2
section
variable {X : Cx} {es : List Expr} {b : Expr} {pos lp : Pos} {ta : TA} {tb : TE}
theorem pa_cut (h : PA X es ta) : PA X es (fun σ H Q => ∃ P : List V → Hp → Prop, ta σ H P ∧ ∀ vs H', P vs H' → Q vs H') :=
  fun p pins s σ H Q I ⟨P, q, w⟩ => thn (h p pins s σ H P I q) fun _ _ ⟨v, H', I', r, z⟩ => ⟨v, H', I', r, w _ _ z⟩
theorem pe_menuV (ha : PA X es ta) (hb : PE X b tb) (hs : PlainIx b := by intro _ _; rfl) : PE X (.Subscript (.List es lp) b pos) (tMenuV ta tb) :=
  (pe_ix ix_list (pe_lst (pa_cut ha)) (pe_cut hb) hs).weak fun σ H Q h => ⟨_, h, fun xs H1 ⟨z, q⟩ => ⟨z, fun p np => ⟨_, q _ (Same.new np _), fun y H3 ⟨e, i, ey, hi, qq⟩ => by
    obtain ⟨v, hv, _, av⟩ := atI_in hi.1 hi.2
    exact ⟨p, xs, i, v, rfl, ey, SqL.of (by rw [e]; exact upd_same), av, by rw [e]; exact qq v hv⟩⟩⟩⟩
theorem mem_ints {xs : List V} {v : V} (h : allInt xs = true) (hv : v ∈ xs) : ∃ m, v = .int m ∧ m ∈ intsOf xs := by
  rw [intsOf_map h] at hv
  obtain ⟨m, hm, e⟩ := List.mem_map.mp hv
  exact ⟨m, e.symm, hm⟩
theorem pe_menu (ha : PA X es ta) (hb : PE X b tb) (hs : PlainIx b := by intro _ _; rfl) : PE X (.Subscript (.List es lp) b pos) (tMenu ta tb) :=
  (pe_menuV (pa_cut ha) (pe_cut hb) hs).weak fun σ H Q h => ⟨_, h, fun xs H1 ⟨z, q⟩ => ⟨z, fun H2 s2 => ⟨_, q H2 s2, fun y H3 ⟨e, i, ey, hi, ai, qq⟩ => ⟨e, i, ey, hi, fun v hv => by
    obtain ⟨m, rfl, hm⟩ := mem_ints ai hv
    exact qq m hm⟩⟩⟩⟩
end
/-! ### within a comprehension: the part of the heap by its name -/
theorem ix_tupK {X : Cx} {K : PySem.W.Frag} (h : X.K = K) : IxR X (rIxT K) := h ▸ ix_tup
theorem ix_listK {X : Cx} {K : PySem.W.Frag} (h : X.K = K) : IxR X (rIxL K) := h ▸ ix_list
theorem refNon {a : Addr} : ¬ V.ref a = V.non := fun z => by cases z
theorem intNon {i : Int} : ¬ V.int i = V.non := fun z => by cases z
theorem strNon {x : Str} : ¬ V.str x = V.non := fun z => by cases z
theorem blNon {b : Bool} : ¬ V.bl b = V.non := fun z => by cases z
theorem strInt {x : Str} {i : Int} : ¬ V.str x = V.int i := fun z => by cases z
theorem intStr {x : Str} {i : Int} : ¬ V.int i = V.str x := fun z => by cases z
theorem nonInt {i : Int} : ¬ V.non = V.int i := fun z => by cases z
theorem nonStr {x : Str} : ¬ V.non = V.str x := fun z => by cases z
end L2

set_option Elab.async false
set_option linter.all false
set_option maxRecDepth 100000
set_option maxHeartbeats 4000000
namespace L2
open PySem PySem.Spec PySem.Calls PyProof.Rows PySem.W Builtin.ObjectAttr
section
variable {prog : Program} {w : World} {A : Around} {E : Value → Shared → Prop} {s : Shared} {K : PySem.W.Frag} {x D : Addr} {ox : Obj} {odo : Option Obj}
theorem findObj_dataO {C : Addr} {od : Option Obj} {name : Str} {a g : Value} (hc : (clsIn K C).isSome = true) (ha : findIn K (.ref C) name = some (some a)) (hg : specialIn K a "__get__" = some (some g)) (ht : takesIn K a = some true) : findObj K C od name = some (.bind g a) := by
  obtain ⟨cd, hc⟩ := Option.isSome_iff_exists.mp hc
  unfold findObj
  rw [hc, Option.bind_some, ha, Option.bind_some]
  simp [hg, ht]
theorem bexc_check {Q : Unit → Shared → Prop} {tk : Tok} {name : Str} (X : K.In s.heap) (I : PySem.W.InstAt s.heap x ox D odo) (hm : mroIn K D (.type "BaseException") = some true) (h : Q () s) :
    wpAny (model prog w) A (checkBuiltinCall "BaseException.__getattribute__" ⟨[.ref x, .str name tk], []⟩) Q E s := by
  obtain ⟨hh, g, d, t, os⟩ := s
  have L0 := I.type (M := model prog w)
  have L1 := looks_mroIn (M := model prog w) X hm
  have LI : Looks (model prog w) hh (isInstance (.ref x) (.type "BaseException")) true := L0.andThen L1
  have hsplit : splitId "BaseException.__getattribute__" = some ("BaseException", "__getattribute__") := by decide +kernel
  have hk : builtinKind "BaseException.__getattribute__" = (Manifest.find? "BaseException").bind (·.attrs.lookup "__getattribute__") := by simp only [builtinKind, hsplit]
  have hkk : (Manifest.find? "BaseException").bind (·.attrs.lookup "__getattribute__") = some .slot := by decide +kernel
  have ha := PySem.F.args_bexc_ga (.ref x) (.str name tk)
  simp only [checkBuiltinCall, hk, hkk, hsplit]
  refine wpAny_bind (LI.at ?_)
  simp only [Bool.not_true, Bool.false_eq_true, if_false]
  cases hsig : Manifest.signature? "BaseException.__getattribute__" with
  | none => exact wpAny_pure h
  | some sig =>
    simp only [argsOk, hsig] at ha
    have h2 : Bind.checkArgs "BaseException.__getattribute__" sig ⟨[.ref x, .str name tk], []⟩ = pure () := ha
    show wpAny _ A (Bind.checkArgs _ sig _) Q E _
    rw [h2]; exact wpAny_pure h
theorem bexc_class {Q : Option Value → Shared → Prop} (X : K.In s.heap) (I : PySem.W.InstAt s.heap x ox D odo)
    (hga : findIn K (.ref D) "__getattribute__" = some (some (.builtin "BaseException.__getattribute__"))) (hk : findIn K (.ref D) "__getattr__" = some none) (hb : mroIn K D (.type "BaseException") = some true)
    (hf : findObj K D odo "__class__" = some (.bind (.builtin "getset_descriptor.__get__") (.builtin "object.__class__"))) (hm : mroIn K D (.type "object") = some true)
    (h : Q (some (.ref D)) { s with toks := s.toks + 1 }) : wpAny (model prog w) A (getAttr? (.ref x) "__class__") Q E s := by
  obtain ⟨hh, gg, d, t, os⟩ := s
  have L0 := I.type (M := model prog w)
  have L1 := looks_findIn (M := model prog w) X hga
  have L2 := looks_findIn (M := model prog w) X hk
  have LF := looks_find (M := model prog w) X I hf
  unfold getAttr? getAttrBy? getAttrBy
  refine wpAny_bind (wpAny_mkText (wpAny_bind (wpAny_attempt (wpAny_holding (wpAny_bind (L0.at (wpAny_bind (L1.at ?_))))))))
  show wpAny _ _ (getAttrByItsOwn (.ref x) (.str "__class__" t) (.ref D) (.builtin "BaseException.__getattribute__") false false) _ _ _
  unfold getAttrByItsOwn
  refine wpAny_bind (m := hookBefore (.ref D)) ?_
  show wpAny _ _ (typeLookup (.ref D) "__getattr__") _ _ _
  refine L2.at ?_
  refine wpAny_bind (wpAny_attempt ?_)
  refine wpAny_holding ?_
  show wpAny _ _ (boundAndCalled (.builtin "BaseException.__getattribute__") (.ref x) (.str "__class__" t)) _ _ _
  unfold boundAndCalled
  rw [PySem.F.excAttr_ValueError.ga.bind]
  refine wpAny_bind (wpAny_pure ?_)
  show wpAny _ _ (call (.builtin "BaseException.__getattribute__") [.ref x, .str "__class__" t]) _ _ _
  refine wpAny_call (codeAny_call_builtin PySem.F.excAttr_ValueError.ga.plain PySem.F.entry_bexc_ga (bexc_check X I hb ?_))
  show wpAny _ _ (Builtin.«object.__getattribute__» ⟨[.ref x, .str "__class__" t], []⟩) _ _ _
  unfold Builtin.«object.__getattribute__»
  refine wpAny_bind (wpAny_of_eq (show slotArgs "__getattribute__" 1 ⟨[.ref x, .str "__class__" t], []⟩ = pure (.ref x, [.str "__class__" t]) from rfl) ?_)
  refine wpAny_bind (wpAny_of_eq (show attrName (.str "__class__" t) = pure "__class__" from rfl) ?_)
  refine wpAny_bind (L0.at (wpAny_bind (LF.at ?_)))
  show wpAny _ _ (holding [.builtin "object.__class__"] (call (.builtin "getset_descriptor.__get__") [.builtin "object.__class__", .ref x, .ref D]) >>= ret) _ _ _
  refine wpAny_bind (wpAny_holding (wpAny_call (class_get (ox := ox) (od := odo) X I hm ?_)))
  exact wpAny_pure (wpAny_pure (wpAny_pure h))
structure ExcK (K : PySem.W.Frag) (D : Addr) : Prop where
  cs : (clsIn K D).isSome = true
  ga : findIn K (.ref D) "__getattribute__" = some (some (.builtin "BaseException.__getattribute__"))
  gh : findIn K (.ref D) "__getattr__" = some none
  be : mroIn K D (.type "BaseException") = some true
  ob : mroIn K D (.type "object") = some true
  ca : findIn K (.ref D) "__class__" = some (some (.builtin "object.__class__"))
  cg : specialIn K (.builtin "object.__class__") "__get__" = some (some (.builtin "getset_descriptor.__get__"))
  ct : takesIn K (.builtin "object.__class__") = some true
theorem kitx_exc (k : ExcK K D) : KitX K (.ref x) (.ref D) (fun h => PySem.W.InstAt h x ox D odo) where
  ty := fun _ _ _ I => I.type
  it := fun _ _ X _ => by
    obtain ⟨cdD, hcD⟩ := Option.isSome_iff_exists.mp k.cs
    unfold clsIn at hcD
    split at hcD
    · rename_i c' d' cd' sl' ho
      intro A' Q' E' s' k q
      unfold isType loadHead
      exact wpAny_bind (wpAny_loadPart (k _ _ (X _ _ ho)) (wpAny_pure q))
    · cases hcD
  ne := fun h tp dd its n sl X htp => by
    obtain ⟨cdD, hcD⟩ := Option.isSome_iff_exists.mp k.cs
    refine Bool.eq_false_iff.mpr fun q => ?_
    have e : D = tp := Value.ref.inj (beq_iff_eq.mp q)
    subst e
    unfold clsIn at hcD
    split at hcD
    · rename_i c' d' cd' sl' ho
      have z := (X _ _ ho).symm.trans htp
      cases z
    · cases hcD
  ca := fun X I q => bexc_class X I k.ga k.gh k.be (findObj_dataO k.cs k.ca k.cg k.ct) k.ob q
end
section
variable {X : Cx}
theorem call_isEM : CallR X (.builtin "isinstance") (fun xs H Q => ∃ (ea D t : Addr) (cs : List Addr) (b : Bool), xs = [.ref ea, .ref t] ∧ H ea = some (exO ea D none) ∧ H t = some (.tup (cs.map V.ref)) ∧ ExcK X.K D ∧ kitAny X.K (.ref D) (cs.map Value.ref) = some b ∧ Q (.bl b) H) := by
  intro pins s σ H xs us Q I r h
  obtain ⟨ea, D, t, cs, b, rfl, he, ht, k, e, q⟩ := h
  obtain ⟨u, w', rfl, rx, rc⟩ := vals2 r
  cases (show w' = Value.ref t from rc)
  cases (show u = Value.ref ea from rx)
  obtain ⟨⟨o, vs, e1, e2, e3, e4⟩, _⟩ := (show ObjOk X.prog X.w H s.heap ea (exO ea D none) from I.hok ea _ he)
  have J : PySem.W.InstAt s.heap ea o D none := ⟨e1, e2, by unfold notCls; rw [e4], by rw [e3]; trivial⟩
  obtain ⟨hzz, its, rv, p⟩ := (show ObjOk X.prog X.w H s.heap t (.tup (cs.map V.ref)) from I.hok t _ ht)
  have hits : its = cs.map Value.ref := by
    clear e ht p hzz
    induction cs generalizing its with
    | nil => cases rv; rfl
    | cons c cs ih =>
      cases rv with
      | cons r1 r2 =>
        rw [List.map_cons, show _ = Value.ref c from r1, ih _ r2]
  subst hits
  obtain ⟨ot, h1, h2, n, h3⟩ := p
  obtain ⟨oc, od, oda, osl⟩ := ot
  cases h2
  cases h3
  exact kia_tup (kitx_exc (ox := o) (odo := none) k) I.kIn J h1 e (fun z => nomatch z) fun tk => ⟨.bl b, H, I.tok tk, rfl, q⟩
end
end L2

set_option Elab.async false
set_option linter.all false
set_option maxRecDepth 100000
set_option maxHeartbeats 4000000
namespace L2
open PySem PySem.Spec PyProof.Rows
section
variable {X : Cx} {pins : List (Addr × Obj)} {σ : St} {H : Hp} {s : Shared} {h' : Heap}
theorem Inv.turnedL {t' : Nat} {ch : List Addr} (I : Inv X pins σ H s) (hf : ∀ b ∈ ch, FpOk X pins H b) (k : ∀ b o, b ∉ ch → s.heap.get? b = some o → h'.get? b = some o) : Inv X pins σ H { s with heap := h', toks := t' } := by
  have nit : ∀ b u, H b = some u → b ∉ ch := fun b u e z => by rw [(hf b z).1] at e; cases e
  refine I.step (g' := s.gens) (d' := s.drawn) (ch := ch) (fun b hb => ?_) (fun b o _ _ hc e _ => k b o hc e) (fun b o _ _ hc e _ => ⟨o.slots, k b o hc e⟩) (fun _ _ _ _ n => n)
    (fun b o hc e => ⟨o, k b o hc e⟩) (fun _ _ e => e) (fun _ _ _ e => e) (fun b ps e => ⟨#[], by rw [e]; simp⟩) (fun m hm => ?_) (fun b u e => ?_) I.bare
  · obtain ⟨_, f1, _, f3, f4, f5⟩ := hf b hb
    exact ⟨f3, f1, f4, f5⟩
  · obtain ⟨o, es, ep, ho, r⟩ := hm
    exact ⟨o, es, ep, k _ o (fun z => (hf _ z).2.1 rfl) ho, r⟩
  · refine (I.hok b u e).stay (fun c v hc q => k c v ?_ q) (fun _ q => q) fun _ _ q => q
    rcases hc with z | z
    · rw [z]; exact nit b u e
    · exact nit c _ z
theorem Inv.turnedNew {t' : Nat} {ch : List Addr} {T : Addr} {ob : HO} (I : Inv X pins σ H s) (hf : ∀ b ∈ ch, FpOk X pins H b) (k : ∀ b o, b ∉ ch → s.heap.get? b = some o → h'.get? b = some o) (hT : s.heap.objs.size ≤ T)
    (new : ObjOk X.prog X.w (upd H T ob) h' T ob) : Inv X pins σ (upd H T ob) { s with heap := h', toks := t' } := by
  have nT : H T = none := I.hok.fresh hT
  have neT : ∀ b u, s.heap.get? b = some u → b ≠ T := fun b u e z => absurd (Nat.lt_of_lt_of_le (Heap.lt_size e) (z ▸ hT)) (Nat.lt_irrefl _)
  have nit : ∀ b u, H b = some u → b ∉ ch := fun b u e z => by rw [(hf b z).1] at e; cases e
  refine I.step (g' := s.gens) (d' := s.drawn) (ch := ch) (fun b hb => ?_) (fun b o _ _ hc e _ => k b o hc e) (fun b o _ _ hc e _ => ⟨o.slots, k b o hc e⟩) (fun b o _ e n => by rw [upd_ne (neT b o e)]; exact n)
    (fun b o hc e => ⟨o, k b o hc e⟩) (fun b xs e => by rw [upd_ne (ne_of_none e nT)]; exact e) (fun b o u e => by rw [upd_ne (ne_of_none e nT)]; exact e) (fun b ps e => ⟨#[], by rw [upd_ne (ne_of_none e nT), e]; simp⟩) (fun m hm => ?_) (fun b u e => ?_) I.bare
  · obtain ⟨_, f1, _, f3, f4, f5⟩ := hf b hb
    exact ⟨f3, f1, f4, f5⟩
  · obtain ⟨o, es, ep, ho, r⟩ := hm
    exact ⟨o, es, ep, k _ o (fun z => (hf _ z).2.1 rfl) ho, r⟩
  · by_cases hb : b = T
    · subst hb
      rw [upd_same] at e
      cases e
      exact new
    · rw [upd_ne hb] at e
      refine (I.hok b u e).stay (fun c v hc q => k c v ?_ q) (fun c q => by rw [upd_ne (ne_of_none q nT)]; exact q) fun c xs q => by rw [upd_ne (ne_of_none q nT)]; exact q
      rcases hc with z | z
      · rw [z]; exact nit b u e
      · exact nit c _ z
end
noncomputable def Itz (K : PySem.W.Frag) (a b : Addr) : It :=
  ⟨fun i H => ∃ xs ys x y, SqL K H a xs ∧ SqL K H b ys ∧ xs[i]? = some x ∧ ys[i]? = some y,
   fun i H v H' => ∃ T x y, H T = none ∧ v = .ref T ∧ (∀ xs, SqL K H a xs → xs[i]? = some x) ∧ (∀ ys, SqL K H b ys → ys[i]? = some y) ∧ H' = upd H T (.tup [x, y]),
   fun i H => ∃ xs ys, SqL K H a xs ∧ SqL K H b ys ∧ i = min xs.length ys.length⟩
noncomputable abbrev zipSt (z TI TO i1 i2 l1 l2 : Addr) (i : Nat) (h : Heap) : Prop :=
  IsZip h z TI TO .none ∧ IsPair h TI (.ref i1) (.ref i2) ∧ (∃ a b, IsPair h TO a b) ∧ h.IsListIter i1 l1 i ∧ h.IsListIter i2 l2 i
theorem turn_zip {P : Program} {w : World} {K : PySem.W.Frag} {elts : List Expr} {k : Nat} {pos : Pos} {z TI TO i1 i2 l1 l2 : Addr} (D : ZipApart z TI TO i1 i2 l1 l2) :
    Turn P w K (.Tuple elts k pos) (Itz K l1 l2) [z, TI, TO, i1, i2] z (zipSt z TI TO i1 i2 l1 l2) where
  mem := by simp
  obj := fun i h st b hb => by
    obtain ⟨hz, hTI, ⟨a, c, hTO⟩, ⟨o1, e1, c1, d1⟩, ⟨o2, e2, c2, d2⟩⟩ := st
    simp at hb
    rcases hb with rfl | rfl | rfl | rfl | rfl
    · exact ⟨_, hz, fun v q => nomatch q⟩
    · exact ⟨_, hTI, fun v q => nomatch q⟩
    · exact ⟨_, hTO, fun v q => nomatch q⟩
    · exact ⟨_, e1, fun v q => by rw [d1] at q; cases q⟩
    · exact ⟨_, e2, fun v q => by rw [d2] at q; cases q⟩
  keep := fun i h h' st kk => by
    obtain ⟨hz, hTI, ⟨a, c, hTO⟩, h1, h2⟩ := st
    exact ⟨kk z (by simp) _ hz, kk TI (by simp) _ hTI, ⟨a, c, kk TO (by simp) _ hTO⟩, h1.at fun o e => kk i1 (by simp) o e, h2.at fun o e => kk i2 (by simp) o e⟩
  item := by
    intro X hP hw hK hc i pins s σ H E I hf st hg
    subst hP hw hK
    obtain ⟨xs, ys, x, y, hx, hy, ex, ey⟩ := hg
    obtain ⟨its1, rv1, p1, z1⟩ := I.list hx
    obtain ⟨its2, rv2, p2, z2⟩ := I.list hy
    obtain ⟨u1, eu1, ru1⟩ := rv1.get ex
    obtain ⟨u2, eu2, ru2⟩ := rv2.get ey
    have W := WalksT.zip2 (prog := X.prog) (w := X.w) (A := X.A) (I.ok.hd hc) z TI TO i1 i2 l1 l2 D its1.toArray its2.toArray
    obtain ⟨hz, hTI, hTO, h1, h2⟩ := st
    have hn : i < min its1.toArray.size its2.toArray.size := by
      have a := (List.getElem?_eq_some_iff.mp eu1).1
      have b := (List.getElem?_eq_some_iff.mp eu2).1
      simp
      omega
    refine W.item i s _ _ hn ⟨hz, hTI, hTO, h1, h2, p1.isList, p2.isList⟩ fun T vals h' tk hPt hnew hT hMid kk => ?_
    refine ⟨.ref T, rfl, ?_⟩
    refine W.go elts k pos i T _ _ _ hMid fun h'' st'' kk2 => ?_
    obtain ⟨x', y', ex', ey', rfl⟩ := hPt
    obtain rfl : x' = u1 := by
      have : its1[i]? = some x' := by simpa using ex'
      rw [eu1] at this; exact (Option.some.inj this).symm
    obtain rfl : y' = u2 := by
      have : its2[i]? = some y' := by simpa using ey'
      rw [eu2] at this; exact (Option.some.inj this).symm
    have hTw := W.apart i T _ hMid
    have k3 : ∀ b o, b ∉ [z, TO, i1, i2] → s.heap.get? b = some o → h''.get? b = some o := fun b o hb e => kk2 b o hb (kk b o hb e)
    have nT : H T = none := I.hok.fresh hnew
    obtain ⟨oT, eT, cT, nn, dT⟩ := hT
    have eT2 : h''.get? T = some oT := kk2 T oT hTw eT
    have ok : ObjOk X.prog X.w (upd H T (.tup [x, y])) h'' T (.tup [x, y]) := ⟨by show 2 ≤ sizeLine; decide, [x', y'], .cons ru1 (.cons ru2 .nil), oT, eT2, cT, nn, by simpa using dT⟩
    have I2 : Inv X pins σ (upd H T (.tup [x, y])) { s with heap := h'', toks := tk } := I.turnedNew (ch := [z, TO, i1, i2]) (fun b hb => hf b (by simp at hb ⊢; rcases hb with rfl | rfl | rfl | rfl <;> simp)) k3 hnew ok
    have hob : ∀ b ∈ [z, TI, TO, i1, i2], ∃ o, s.heap.get? b = some o := fun b hb => by
      obtain ⟨ta, tb, hTO'⟩ := hTO
      obtain ⟨q1, r1, _⟩ := h1
      obtain ⟨q2, r2, _⟩ := h2
      simp at hb
      rcases hb with rfl | rfl | rfl | rfl | rfl
      · exact ⟨_, hz⟩
      · exact ⟨_, hTI⟩
      · exact ⟨_, hTO'⟩
      · exact ⟨_, r1⟩
      · exact ⟨_, r2⟩
    refine ⟨.ref T, upd H T (.tup [x, y]), I2, rfl, ⟨T, x, y, nT, rfl, fun vs hv => by rw [I.list_inj hv hx]; exact ex, fun vs hv => by rw [I.list_inj hv hy]; exact ey, rfl⟩, ⟨st''.1, st''.2.1, st''.2.2.1, st''.2.2.2.1, st''.2.2.2.2.1⟩, fun b hb => ?_⟩
    rw [upd_ne ?_]
    · exact (hf b hb).1
    · intro zz
      obtain ⟨o, eo⟩ := hob b hb
      exact absurd (Nat.lt_of_lt_of_le (Heap.lt_size eo) (zz ▸ hnew)) (Nat.lt_irrefl _)
  done := by
    intro X hP hw hK hc i pins s σ H E I hf st hg
    subst hP hw hK
    obtain ⟨xs, ys, hx, hy, ei⟩ := hg
    obtain ⟨its1, rv1, p1, z1⟩ := I.list hx
    obtain ⟨its2, rv2, p2, z2⟩ := I.list hy
    have W := WalksT.zip2 (prog := X.prog) (w := X.w) (A := X.A) (I.ok.hd hc) z TI TO i1 i2 l1 l2 D its1.toArray its2.toArray
    obtain ⟨hz, hTI, hTO, h1, h2⟩ := st
    have l1' := rv1.length
    have l2' := rv2.length
    have hn : i = min its1.toArray.size its2.toArray.size := by simp; omega
    refine W.done s _ _ (hn ▸ ⟨hz, hTI, hTO, h1, h2, p1.isList, p2.isList⟩) fun h' tk kk => ⟨rfl, ?_⟩
    exact I.turnedL (ch := [z, TO, i1, i2]) (fun b hb => hf b (by simp at hb ⊢; rcases hb with rfl | rfl | rfl | rfl <;> simp)) kk
  self := fun _ _ _ _ _ st h => wpAny_pyIter_zip st.1 h
noncomputable def iZip (K : PySem.W.Frag) (ta : TA) : TI := fun σ H R => ta σ H fun vs H1 => ∃ a b : Addr, vs = [.ref a, .ref b] ∧ (∃ xs, SqL K H1 a xs) ∧ (∃ ys, SqL K H1 b ys) ∧ R (Itz K a b) H1
theorem pi_zip2 {X : Cx} {elts : List Expr} {k : Nat} {tpos : Pos} {a b : Expr} {ta : TA} {p pos : Pos} (hg : Gl X "zip") (hm : X.mg "zip" = none) (ha : PA X [a, b] ta) (hs : starEach [a, b] X.env = [(false, eval a X.env), (false, eval b X.env)] := by rfl) (hs2 : starEach [b] X.env = [(false, eval b X.env)] := by rfl) :
    PI X (.Tuple elts k tpos) (.Call (.Name "zip" p) [a, b] [] pos) (iZip X.K ta) := by
  intro pins s σ H R I h
  refine Call_ (ld_blt I hg hm (show bootBuiltins "zip" = some (.type "zip") by decide +kernel) (PyProof.Rows.callWith_type1 (thn (ha pos pins s σ H _ I h) fun us s1 ⟨vs, H1, I1, r1, q1⟩ => ?_) (by rw [hs, hs2]) (by rw [hs2]; rfl)))
  obtain ⟨l1, l2, e, ⟨xs, hx⟩, ⟨ys, hy⟩, q⟩ := q1
  subst e
  cases r1 with
  | cons r rr =>
    cases rr with
    | cons r' rr =>
      cases rr
      cases (show _ = Value.ref l1 from r)
      cases (show _ = Value.ref l2 from r')
      obtain ⟨its1, rv1, p1, z1⟩ := I1.list hx
      obtain ⟨its2, rv2, p2, z2⟩ := I1.list hy
      have hlt1 : l1 < s1.heap.objs.size := by
        obtain ⟨o1, n1, e1, _⟩ := p1
        exact Heap.lt_size e1
      have hlt2 : l2 < s1.heap.objs.size := by
        obtain ⟨o2, n2, e2, _⟩ := p2
        exact Heap.lt_size e2
      refine call_zip_2 p1.isList p2.isList fun h' hz hTI hTO hi1 hi2 hsz hk => ?_
      refine wpAny_pyIter_zip hz ?_
      refine ⟨s1.heap.objs.size + 4, [s1.heap.objs.size + 4, s1.heap.objs.size + 2, s1.heap.objs.size + 3, s1.heap.objs.size, s1.heap.objs.size + 1], _, _, H1, rfl, I1.kept (t' := s1.toks) hk, turn_zip (PySem.W.ktu_apart _ _ _ hlt1 hlt2), ⟨hz, hTI, ⟨_, _, hTO⟩, hi1, hi2⟩, fun b hb => ?_, q⟩
      have hb' : s1.heap.objs.size ≤ b := by
        simp at hb
        rcases hb with rfl | rfl | rfl | rfl | rfl <;> first | exact Nat.le_refl _ | exact Nat.le_add_right _ _
      exact I1.fpOk hb' (I1.hok.fresh hb')
theorem for_zip {K : PySem.W.Frag} {a b : Addr} {xs ys : List V} {g : TG} {tb : TS} {D : Ends} {σ : St} {H : Hp} (Pv : Nat → St → Hp → Prop) (h0 : Pv 0 σ H) (hl : ∀ i σ H, i ≤ xs.length → Pv i σ H → SqL K H a xs ∧ SqL K H b ys) (hxy : xs.length = ys.length)
    (hs : ∀ i x y T σ H, xs[i]? = some x → ys[i]? = some y → Pv i σ H → H T = none → g (.ref T) σ (upd H T (.tup [x, y])) fun σ2 H2 => tb { D with nx := Pv (i + 1), ct := Pv (i + 1), bk := D.nx } σ2 H2) (hd : ∀ σ H, Pv xs.length σ H → D.nx σ H) :
    ∃ W : Nat → Nat → St → Hp → Prop, (∃ m, W 0 m σ H) ∧ ∀ i m σ H, W i m σ H →
      ((Itz K a b).stop i H ∧ D.nx σ H) ∨ ((Itz K a b).go i H ∧ ∃ N : St → Hp → Prop, (∀ σ' H', N σ' H' → ∃ m', m' < m ∧ W (i + 1) m' σ' H') ∧ ∀ x H', (Itz K a b).yld i H x H' → g x σ H' fun σ2 H2 => tb { D with nx := N, ct := N, bk := D.nx } σ2 H2) := by
  refine ⟨fun i m σ H => m = xs.length - i ∧ i ≤ xs.length ∧ Pv i σ H, ⟨xs.length, by simp, Nat.zero_le _, h0⟩, ?_⟩
  rintro i m σ H ⟨rfl, hi, p⟩
  obtain ⟨q1, q2⟩ := hl i σ H hi p
  by_cases hlt : i < xs.length
  · refine .inr ⟨⟨xs, ys, xs[i], ys[i], q1, q2, by simp [hlt], by simp [show i < ys.length by omega]⟩, Pv (i + 1), fun σ' H' p' => ⟨xs.length - (i + 1), by omega, rfl, hlt, p'⟩, fun v H' yl => ?_⟩
    obtain ⟨T, x, y, nT, rfl, hx, hy, rfl⟩ := yl
    exact hs i x y T σ H (hx xs q1) (hy ys q2) p nT
  · have e : i = xs.length := by omega
    subst e
    exact .inl ⟨⟨xs, ys, q1, q2, by omega⟩, hd σ H p⟩

/-! ### list comprehensions, the forms one uses -/
theorem cstep {n i : Nat} {P : Prop} (h : i < n) (p : P) : ∃ m', m' < n - i ∧ m' = n - (i + 1) ∧ i + 1 ≤ n ∧ P := ⟨n - (i + 1), by omega, rfl, h, p⟩
theorem comp_list {K : PySem.W.Frag} {a : Addr} {xs : List V} {c : TC} {tif : TT} {te : TE} {σ : St} {Q : VK} {acc : Addr} {H0 : Hp} (Pv : Nat → List V → Hp → Prop) (h0 : Pv 0 [] H0) (hl : ∀ i ys H, i ≤ xs.length → Pv i ys H → SqL K H a xs)
    (hs : ∀ i x ys H, i < xs.length → xs[i]? = some x → Pv i ys H → c x H fun vs => tif (σ ++ vs.map some) H fun b H3 => if b = true then te (σ ++ vs.map some) H3 fun v H4 => H4 acc = some (.lst ys) ∧ ys.length < sizeLine ∧ ∃ m', m' < xs.length - i ∧ m' = xs.length - (i + 1) ∧ i + 1 ≤ xs.length ∧ Pv (i + 1) (ys ++ [v]) (upd H4 acc (.lst (ys ++ [v])))
      else ∃ m', m' < xs.length - i ∧ m' = xs.length - (i + 1) ∧ i + 1 ≤ xs.length ∧ Pv (i + 1) ys H3) (hd : ∀ ys H, Pv xs.length ys H → Q (.ref acc) H) :
    CompR (Itl K a) c tif te σ Q acc H0 := by
  refine ⟨fun i m ys H => m = xs.length - i ∧ i ≤ xs.length ∧ Pv i ys H, ⟨xs.length, by simp, Nat.zero_le _, h0⟩, ?_⟩
  rintro i m ys H ⟨rfl, hi, p⟩
  have q := hl i ys H hi p
  by_cases hlt : i < xs.length
  · refine .inr ⟨⟨xs, xs[i], q, by simp [hlt]⟩, fun x H' y => ?_⟩
    obtain ⟨e, y⟩ := y
    subst e
    exact hs i x ys _ hlt (y xs q) p
  · have e : i = xs.length := by omega
    subst e
    exact .inl ⟨⟨xs, q, Nat.le_refl _⟩, hd ys H p⟩
theorem comp_range {lo : Int} {n : Nat} {c : TC} {tif : TT} {te : TE} {σ : St} {Q : VK} {acc : Addr} {H0 : Hp} (Pv : Nat → List V → Hp → Prop) (h0 : Pv 0 [] H0)
    (hs : ∀ i  ys H, i < n → Pv i ys H → c (.int (lo + i)) H fun vs => tif (σ ++ vs.map some) H fun b H3 => if b = true then te (σ ++ vs.map some) H3 fun v H4 => H4 acc = some (.lst ys) ∧ ys.length < sizeLine ∧ ∃ m', m' < n - i ∧ m' = n - (i + 1) ∧ i + 1 ≤ n ∧ Pv (i + 1) (ys ++ [v]) (upd H4 acc (.lst (ys ++ [v])))
      else ∃ m', m' < n - i ∧ m' = n - (i + 1) ∧ i + 1 ≤ n ∧ Pv (i + 1) ys H3) (hd : ∀ ys H, Pv n ys H → Q (.ref acc) H) :
    CompR (Itr lo n) c tif te σ Q acc H0 := by
  refine ⟨fun i m ys H => m = n - i ∧ i ≤ n ∧ Pv i ys H, ⟨n, by simp, Nat.zero_le _, h0⟩, ?_⟩
  rintro i m ys H ⟨rfl, hi, p⟩
  by_cases hlt : i < n
  · refine .inr ⟨hlt, fun x H' y => ?_⟩
    obtain ⟨e, y⟩ := y
    subst e y
    exact hs i  ys _ hlt  p
  · have e : i = n := by omega
    subst e
    exact .inl ⟨Nat.le_refl _, hd ys H p⟩
end L2

set_option Elab.async false
set_option linter.all false
set_option maxRecDepth 100000
set_option maxHeartbeats 4000000
namespace L2
open PySem PySem.Spec PyProof.Rows
theorem ps_comp {X : Cx} {i0 : Nat} {y : Str} {py spos : Pos} {elt tg iter : Expr} {ifs : List Expr} {sc sc0 : Scope} {pos : Pos} {N NB ts : List Str} {wi : TI} {g : TG} {c : TC} {tif : TT} {te : TE} (hc : X.calm = true) (hsc : X.env.scope = sc0) (hXN : X.N = N) (S : ScOk sc sc0 N NB ts)
    (hi : PI X tg iter wi) (ht : Takes g c N.length ts.length)
    (hg : ∀ (C : Addr) (s₁ : Shared) (H₁ : Hp) (pn : List (Addr × Obj)) (fp : List Addr), PG (X.blk sc C s₁ H₁ pn fp NB) tg g)
    (hf : ∀ (C : Addr) (s₁ : Shared) (H₁ : Hp) (pn : List (Addr × Obj)) (fp : List Addr), PIf (X.blk sc C s₁ H₁ pn fp NB) ifs tif)
    (he : ∀ (C : Addr) (s₁ : Shared) (H₁ : Hp) (pn : List (Addr × Obj)) (fp : List Addr), PE (X.blk sc C s₁ H₁ pn fp NB) elt te)
    (hN : X.N.Nodup) (hy : X.N[i0]? = some y) (hly : X.env.scope.names.lookup y = some .local)
    (hs : ∀ x, foldedSetIterable iter X.env x = pure x := by intro _; rfl) (hsw : swapsWith (.ListComp elt [⟨tg, iter, ifs, 0⟩] sc pos) (some (.Name y py)) spos.line X.env = pure true := by rfl) :
    PS X (.Assign [.Name y py] (.ListComp elt [⟨tg, iter, ifs, 0⟩] sc pos) spos) (tAsg (tComp wi c tif te) (gName i0)) := by
  intro pins s σ H D I h
  rw [exec_Assign_Name_used _ _ _ _ hsw]
  refine wpAny_bind (wpAny_standAt (wpAny_bind ?_))
  show wpAny _ X.A (do let _ ← comprehension (.ListComp elt [⟨tg, iter, ifs, 0⟩] sc pos) sc X.env _ (newList []) false (eval iter X.env) (some (assign (.Name y py) X.env))) _ _ s
  have hcell : ∀ p ∈ sc.names, p.2 = .free → ∃ c, X.env.cells.lookup p.1 = some c := fun p hp e => by
    have k := S.free p hp e
    refine I.ok.has p.1 ?_
    show X.env.scope.names.lookup p.1 = some .cell ∨ X.env.scope.names.lookup p.1 = some .free
    rw [hsc]
    exact k
  have hclm : ∀ y c, (clOf X.env sc.names []).lookup y = some c → X.env.cells.lookup y = some c := fun y c e => clOf_mem hcell (fun _ _ z => by cases z) e
  refine wpAny_bind (wpAny_mono (wpAny_comprehension_free (use := some (assign (.Name y py) X.env)) (Q := fun _ s' => SP X pins D .next s') rfl hs (closureFor_cl hcell) S.kind S.loc ?_) (fun _ s' hq => wpAny_pure (wpAny_pure hq)) fun _ _ e => e)
  refine thn (hi pins s σ H _ I h) fun v s1 h1 => thn h1 fun itv s2 h2 => ?_
  obtain ⟨it, fp, tn, J, H2, e, I2, T, st2, f2, q2⟩ := h2
  subst e
  have hσ : σ.length = N.length := by rw [I2.len, hXN]
  have fa : H2 s2.heap.objs.size = none := I2.hok.fresh (Nat.le_refl _)
  obtain ⟨W, ⟨m0, w0⟩, turn⟩ := q2 s2.heap.objs.size fa
  refine wpAny_newObj_type (wpAny_newFunctionEnv S.nocell (by intro y hy; simp at hy) (fun h₁ hns₁ hsb₁ => ?_) S.kind)
  dsimp only at hns₁ hsb₁ ⊢
  generalize hH2 : s2.heap.push { cls := .type "list", dict := none, data := .seq ([] : List Value).toArray } = hp2 at hns₁ hsb₁ ⊢
  have hC : hp2.objs.size = s2.heap.objs.size + 1 := by rw [← hH2, Heap.size_push]
  have old : ∀ b o, s2.heap.get? b = some o → h₁.get? b = some o := fun b o e => hsb₁.extBut b o (by rw [hC]; exact Nat.ne_of_lt (Nat.lt_succ_of_lt (Heap.lt_size e))) (Heap.get?_push_of_some _ (hH2 ▸ Heap.get?_push_of_some _ e))
  have hacc : h₁.get? s2.heap.objs.size = some { cls := .type "list", dict := none, data := .seq ([] : List Value).toArray } := hsb₁.extBut _ _ (by rw [hC]; exact Nat.ne_of_lt (Nat.lt_succ_self _)) (Heap.get?_push_of_some _ (hH2 ▸ Heap.get?_push_size _ rfl))
  have nC : s2.heap.get? hp2.objs.size = none := by
    cases q : s2.heap.get? hp2.objs.size with
    | none => rfl
    | some o => exact absurd (Nat.lt_trans (Nat.lt_succ_self _) (hC ▸ Heap.lt_size q)) (Nat.lt_irrefl _)
  have stkM : ∀ b, b ∈ frs X.stack → b = X.env.locals ∨ b ∈ X.fs := fun b hb => List.mem_cons.mp (I2.stkSub b hb)
  have ltO : ∀ {b o}, s2.heap.get? b = some o → b ≠ s2.heap.objs.size ∧ b ≠ hp2.objs.size := fun e => ⟨Nat.ne_of_lt (Heap.lt_size e), by rw [hC]; exact Nat.ne_of_lt (Nat.lt_succ_of_lt (Heap.lt_size e))⟩
  have okY : (X.blk sc hp2.objs.size s2 H2 (X.pn ++ pins) fp NB).Ok := by
    refine ⟨I2.ok.mod, ?_, I2.ok.glob, I2.ok.blt, ?_, fun x y c h1 h2 => I2.ok.inj x y c (hclm _ _ h1) (hclm _ _ h2), fun x hx => ?_, fun x c h => ?_, I2.ok.hd, I2.ok.frames, .inl rfl, fun b hb => ?_, I2.bs, Nat.le_trans I2.ok.bsz I2.sz, fun b o e hb => ?_, fun b hb hm => ?_, I2.stack, I2.stkFree⟩
    · show (relabel sc X.env).kind = .function
      exact S.kind
    · show s2.heap.objs.size ≤ hp2.objs.size
      rw [hC]
      exact Nat.le_succ _
    · have hx' : ∃ k, ((relabel sc X.env).names.lookup x = some k) ∧ (k = .cell ∨ k = .free) := hx.elim (fun z => ⟨_, z, .inl rfl⟩) fun z => ⟨_, z, .inr rfl⟩
      obtain ⟨k, hk, hkk⟩ := hx'
      obtain ⟨k0, e0, r0⟩ := lookup_relabel hk
      have hfree : k0 = .free := by
        have m0 := mem_of_lk e0
        have nc := S.nocell _ m0
        rcases r0 with r0 | ⟨r0, _⟩
        · subst r0
          rcases hkk with z | z
          · exact absurd z nc
          · exact z
        · exact r0
      subst hfree
      have z := clOf_has (env := X.env) (acc := []) (mem_of_lk e0)
      exact Option.isSome_iff_exists.mp z
    · cases h
    · obtain ⟨f0, f1, f3, f4, f5, f6⟩ := f2 b hb
      obtain ⟨o, eo, _⟩ := T.obj 0 s2.heap st2 b hb
      exact ⟨(ltO eo).2, fun x c e => f5 x c (hclm x c e)⟩
    · obtain ⟨f0, f1, f3, f4, f5, f6⟩ := f2 b hb
      rcases f4 with z | z
      · exact I2.ok.noex b o e z
      · exact absurd (Nat.lt_of_lt_of_le (Heap.lt_size e) (Nat.le_trans I2.ok.bsz z)) (Nat.lt_irrefl _)
    · obtain ⟨f0, f1, f3, f4, f5, f6⟩ := f2 b hb
      rcases stkM b hm with z | z
      · exact f1 z
      · exact f3 z
  have IY : Inv (X.blk sc hp2.objs.size s2 H2 (X.pn ++ pins) fp NB) [] (σ ++ List.replicate ts.length none) (upd H2 s2.heap.objs.size (.lst [])) { s2 with heap := h₁, toks := s2.toks + ([] : List (Str × Value)).length } := by
    refine ⟨okY, rfl, I2.bare, Un.laid old (Nat.le_refl _) fa, ⟨_, hns₁, fun i x v e1 e2 e3 => ?_⟩, fun x c e => ?_, ?_, fun x c e => ?_, fun p hp => ?_, ?_, ?_⟩
    · have hiN : i < N.length := by
        by_cases z : i < N.length
        · exact z
        · rw [List.getElem?_append_right (by omega), List.getElem?_replicate] at e2
          split at e2 <;> cases e2
      rw [List.getElem?_append_left (by omega)] at e2
      have e3' : ∃ k, (relabel sc X.env).names.lookup x = some k := e3.elim (fun z => ⟨_, z⟩) fun z => z.elim (fun z => ⟨_, z⟩) fun z => ⟨_, z⟩
      obtain ⟨k, hk⟩ := e3'
      obtain ⟨k0, e0, r0⟩ := lookup_relabel hk
      have m0 := mem_of_lk e0
      have hfree : k0 = .free := by
        have nl := S.locN i x hiN e1
        have nc := S.nocell _ m0
        have kk : k = .local ∨ k = .cell ∨ k = .free := by
          rcases e3 with z | z | z
          · exact .inl (Option.some.inj (hk.symm.trans z))
          · exact .inr (.inl (Option.some.inj (hk.symm.trans z)))
          · exact .inr (.inr (Option.some.inj (hk.symm.trans z)))
        rcases r0 with r0 | ⟨r0, _⟩
        · subst r0
          rcases kk with z | z | z
          · exact absurd (by rw [e0, z]) nl
          · exact absurd z nc
          · exact z
        · exact r0
      subst hfree
      have eN := S.same i x hiN e1 e0
      have hkX := S.free _ m0 rfl
      have kX : X.env.kindOf x = some .cell ∨ X.env.kindOf x = some .free := by
        show X.env.scope.names.lookup x = some .cell ∨ X.env.scope.names.lookup x = some .free
        rw [hsc]
        exact hkX
      obtain ⟨m, hn, hl⟩ := I2.loc
      obtain ⟨u, ru, lk⟩ := hl i x v (by rw [hXN]; exact eN) e2 (.inr kX)
      refine ⟨u, ru, .inr ⟨?_, ?_⟩⟩
      · rcases r0 with r0 | ⟨_, r0⟩
        · exact .inr (by show (relabel sc X.env).names.lookup x = some .free; rw [hk, ← r0])
        · exact .inl (by show (relabel sc X.env).names.lookup x = some .cell; rw [hk, r0])
      · obtain ⟨c, hcl⟩ := Option.isSome_iff_exists.mp (clOf_has (env := X.env) (acc := []) m0)
        refine ⟨c, hcl, ?_⟩
        rcases lk with ⟨z, _⟩ | ⟨_, c', ec, z⟩
        · rcases kX with k | k
          · rw [z] at k; cases k
          · rw [z] at k; cases k
        · have z2 := hclm x c hcl
          rw [ec] at z2
          cases z2
          exact z.keeps old
    · obtain ⟨v, z⟩ := I2.cell x c (hclm x c e)
      exact ⟨v, z.keeps old⟩
    · show upd H2 s2.heap.objs.size (.lst []) hp2.objs.size = none
      rw [upd_ne (by rw [hC]; exact Nat.ne_of_gt (Nat.lt_succ_self _))]
      exact I2.hok.fresh (by rw [hC]; exact Nat.le_succ _)
    · obtain ⟨v, z⟩ := I2.cell x c (hclm x c e)
      rw [upd_ne (Nat.ne_of_lt z.lt)]
      exact I2.freeC x c (hclm x c e)
    · obtain ⟨e, n, ne, nf, d⟩ := I2.pin p (by simpa using hp)
      refine ⟨old _ _ e, by rw [upd_ne (ltO e).1]; exact n, (ltO e).2, fun hm => ?_, d⟩
      rcases stkM _ hm with z | z
      · exact ne z
      · exact nf z
    · exact I2.hok.laid old (Nat.le_refl _) ⟨Nat.zero_le _, [], 0, .nil, hacc⟩
    · show (σ ++ List.replicate ts.length none).length = NB.length
      rw [List.length_append, List.length_replicate, hσ, S.len]
  have stat : ∀ {H' : Hp}, (∀ b ∈ fp, H' b = none) → ∀ b ∈ fp, FpOk (X.blk sc hp2.objs.size s2 H2 (X.pn ++ pins) fp NB) [] H' b := fun hn b hb => by
    obtain ⟨f0, f1, f3, f4, f5, f6⟩ := f2 b hb
    obtain ⟨o, eo, _⟩ := T.obj 0 s2.heap st2 b hb
    exact ⟨hn b hb, (ltO eo).2, fun hm => (stkM b hm).elim f1 f3, .inl hb, fun x c e => f5 x c (hclm x c e), fun p hp => f6 p (by simpa using hp)⟩
  have fpn : ∀ b ∈ fp, upd H2 s2.heap.objs.size (.lst []) b = none := fun b hb => by
    obtain ⟨o, eo, _⟩ := T.obj 0 s2.heap st2 b hb
    rw [upd_ne (ltO eo).1]
    exact (f2 b hb).1
  have loop : codeAny (model X.prog X.w) X.A (.compLoop (.ListComp elt [⟨tg, iter, ifs, 0⟩] sc pos) 0 (.ref it) (.ref s2.heap.objs.size) (compEnvC sc (clOf X.env sc.names []) hp2.objs.size X.env))
      (compPost (model X.prog X.w) X.A X.xe (some (assign (.Name y py) X.env)) (fun _ s' => SP X pins D .next s') (.ref s2.heap.objs.size) hp2.objs.size) { s2 with heap := h₁, toks := s2.toks + ([] : List (Str × Value)).length } := by
    refine comp_loop (fun n s' => ∃ i ys tl H', tl.length = ts.length ∧ Inv (X.blk sc hp2.objs.size s2 H2 (X.pn ++ pins) fp NB) [] (σ ++ tl) H' s' ∧ tn i s'.heap ∧ (∀ b ∈ fp, H' b = none) ∧ W i n ys H') ?_ m0
      ⟨0, [], List.replicate ts.length none, _, by simp, IY, T.keep _ _ _ st2 (fun b hb o e => old b o e), fpn, w0⟩
    rintro n s3 ⟨i, ys, tl, H3, htl, I3, st3, fr3, w3⟩
    rcases turn i n ys H3 w3 with ⟨stop, qn⟩ | ⟨go, step⟩
    · refine thn (T.done (X.blk sc hp2.objs.size s2 H2 (X.pn ++ pins) fp NB) rfl rfl rfl hc i [] s3 _ H3 _ I3 (stat fr3) st3 stop) fun r s4 ⟨hr, I4⟩ => ?_
      subst hr
      obtain ⟨m, hn, _⟩ := id I4.loc
      have IX : Inv X pins σ H3 s4 := by
        refine I2.call' (s' := s4) (ch := fp) I4.os I4.base I4.hok I4.bare fun b hb => ?_
        obtain ⟨f0, f1, f3, f4, f5, f6⟩ := f2 b hb
        exact ⟨f4, f1, f5, f6⟩
      show wpAny _ X.A (assign (.Name y py) X.env (.ref s2.heap.objs.size)) _ _ s4
      refine wpAny_assign_Name (store_ok2 (v := .ref s2.heap.objs.size) IX hN hy (.inl hly) rfl (fun s5 I5 ⟨a5, sb5, ha5⟩ => ?_) (.inr hly))
      have hCs : s2.heap.objs.size ≤ hp2.objs.size := by rw [hC]; exact Nat.le_succ _
      have neC5 : hp2.objs.size ≠ a5 := by
        rcases ha5 with z | z
        · rw [z]; exact Nat.ne_of_gt (Nat.lt_of_lt_of_le I2.lt hCs)
        · obtain ⟨v, zc⟩ := I2.cell y a5 z
          exact Nat.ne_of_gt (Nat.lt_of_lt_of_le zc.lt hCs)
      refine ⟨m, hn.sameBut sb5 neC5, fun h' hsb => ?_⟩
      refine ⟨_, H3, ?_, qn⟩
      exact I5.turnedL (t' := s5.toks) (ch := [hp2.objs.size]) (fun b hb => by
        have e : b = hp2.objs.size := by simpa using hb
        subst e
        exact I2.fpOk hCs I4.free) fun b o hb e => hsb.extBut b o (by simpa using hb) e
    · refine thn (T.item (X.blk sc hp2.objs.size s2 H2 (X.pn ++ pins) fp NB) rfl rfl rfl hc i [] s3 _ H3 _ I3 (stat fr3) st3 go) fun r s4 ⟨u, hr, h4⟩ => ?_
      subst hr
      refine thn h4 fun _ s5 ⟨x, H5, I5, r5, y5, st5, fr5⟩ => ?_
      have I5' := I5.pinned (stat fr5) (T.obj _ _ st5)
      have again : ∀ {H7 : Hp} {s7 : Shared} {xs : List V} {ys' : List V} {m' : Nat}, xs.length = ts.length → Inv (X.blk sc hp2.objs.size s2 H2 (X.pn ++ pins) fp NB) ([] ++ pinsAt fp s5.heap) (σ ++ xs.map some) H7 s7 → m' < n → W (i + 1) m' ys' H7 →
          ∃ m, m < n ∧ ∃ i ys tl H', tl.length = ts.length ∧ Inv (X.blk sc hp2.objs.size s2 H2 (X.pn ++ pins) fp NB) [] (σ ++ tl) H' s7 ∧ tn i s7.heap ∧ (∀ b ∈ fp, H' b = none) ∧ W i m ys H' := fun {H7 s7 xs ys' m'} hxs I7 hm w7 => by
        refine ⟨m', hm, i + 1, ys', xs.map some, H7, by rw [List.length_map]; exact hxs, I7.unpinned, T.keep _ _ _ st5 fun b hb o e => (I7.pin (b, o) (List.mem_append_right _ (List.mem_append_right _ (mem_pinsAt hb e)))).1, fun b hb => ?_, w7⟩
        obtain ⟨o, e, d⟩ := T.obj _ _ st5 b hb
        exact (I7.pin (b, o) (List.mem_append_right _ (List.mem_append_right _ (mem_pinsAt hb e)))).2.1
      refine thn (hg _ _ _ _ _ _ s5 (σ ++ tl) H5 x u _ I5' r5 (ht σ tl x H5 _ hσ htl (step x H5 y5))) fun _ s6 ⟨σ6, H6, I6, xs, hxs, e6, e7, q6⟩ => ?_
      subst e6 e7
      refine thn (hf _ _ _ _ _ _ s6 _ _ _ I6 q6) fun b s7 ⟨H7, I7, q7⟩ => ?_
      cases b with
      | false =>
        obtain ⟨m', hm, w7⟩ := q7
        exact again hxs I7 hm w7
      | true =>
        refine thn (he _ _ _ _ _ _ s7 _ _ _ I7 q7) fun y s8 ⟨v, H8, I8, r8, e8, l8, m', hm, w8⟩ => ?_
        refine thn (mt_append (X := X.blk sc hp2.objs.size s2 H2 (X.pn ++ pins) fp NB) _ s8 _ H8 (.ref s2.heap.objs.size) [v] (.ref s2.heap.objs.size) [y] (fun z H9 => z = .non ∧ H9 = upd H8 s2.heap.objs.size (.lst (ys ++ [v]))) I8 rfl (.cons r8 .nil) ⟨_, ys, v, rfl, rfl, e8, l8, rfl, rfl⟩) fun z s9 ⟨v9, H9, I9, r9, e9, e10⟩ => ?_
        subst e10
        exact again hxs I9 hm w8
  exact codeAny_compStart_list loop (T.self X.A 0 _ _ _ (T.keep _ _ _ st2 fun b hb o e => old b o e) loop)
/-! ### a word about the state, ahead of the rest -/
/-! ### == and != of two tuples of one length -/
end L2

set_option Elab.async false
set_option linter.all false
set_option maxRecDepth 100000
set_option maxHeartbeats 4000000
namespace L2
open PySem PySem.Spec PyProof.Rows
/-! ### how many, and where, of a list of truths -/
section
variable {X : Cx}
end
end L2
namespace L2
open PySem PySem.Spec PyProof.Rows
/-! ### the sum of a tuple -/
end L2

set_option Elab.async false
set_option linter.all false
set_option maxRecDepth 100000
set_option maxHeartbeats 4000000
namespace L2
open PySem PySem.Spec PyProof.Rows
/-! ### texts: join, split, int of a text -/
theorem strs_of : ∀ {ts : List Str} {its : List Value}, Vals (ts.map V.str) its → ∃ l : List (Str × Tok), its = strValues l ∧ l.map (·.1) = ts
  | [], _, r => by rw [List.map_nil] at r; cases r; exact ⟨[], rfl, rfl⟩
  | x :: ts, _, r => by
    rw [List.map_cons] at r
    cases r with
    | cons h t =>
      obtain ⟨u, rfl⟩ := h
      obtain ⟨l, e1, e2⟩ := strs_of t
      exact ⟨(x, u) :: l, by rw [e1]; rfl, by rw [List.map_cons, e2]⟩
theorem vals_strs : ∀ (l : List (Str × Tok)), Vals ((l.map (·.1)).map V.str) (strValues l)
  | [] => .nil
  | (x, u) :: l => .cons ⟨u, rfl⟩ (vals_strs l)
section
variable {X : Cx}
noncomputable def rJoin : V → List V → Hp → VK → Prop := fun x vs H Q => ∃ (z : Str) (D : Addr) (ts : List Str), x = .str z ∧ vs = [.ref D] ∧ H D = some (.lst (ts.map V.str)) ∧ JoinOk z ts = true ∧ Q (.str (Txt.join z ts)) H
theorem mt_join : MtM X "str.join" rJoin := by
  intro pins s σ H x vs v us Q I rx rv h
  obtain ⟨z, D, ts, rfl, rfl, hH, hok, q⟩ := h
  obtain ⟨t, rfl⟩ := rx
  obtain ⟨u, rfl, ru⟩ := rv.one
  cases ru
  obtain ⟨zz, its, n, r, hl, e⟩ := I.lstM hH
  obtain ⟨l, rfl, el⟩ := strs_of r
  refine SC.join (l := l) (texts := ts) ⟨_, e, rfl, n, rfl⟩ el hok fun t' k => ⟨.str (Txt.join z ts), H, I.tok _, ⟨t', rfl⟩, q⟩
noncomputable def rSplit : V → List V → Hp → VK → Prop := fun x vs H Q => ∃ (z y : Str), x = .str z ∧ vs = [.str y] ∧ (y.length == 0) = false ∧ z.length ≤ 100000 ∧
  ∀ p, H p = none → Q (.ref p) (upd H p (.lst ((Txt.split z y).map V.str)))
theorem mt_split : MtM X "str.split" rSplit := by
  intro pins s σ H x vs v us Q I rx rv h
  obtain ⟨z, y, rfl, rfl, hy, hz', q⟩ := h
  have hz : z.length ≤ sizeLine := by rw [sizeLine_eq]; omega
  have hz2 : (Builtin.Str.partsBetween z (Builtin.Str.occurrences z y 0 z.length (z.length + 1)) y.length).length ≤ sizeLine := by
    have := StrLaws.occ_length_le z y 0 z.length (z.length + 1)
    rw [PyProof.Rows.len_partsBetween, sizeLine_eq]
    omega
  have hz3 : (Txt.split z y).length ≤ sizeLine := by
    have := PyProof.Rows.split_le z y
    rw [sizeLine_eq]
    omega
  obtain ⟨t, rfl⟩ := rx
  obtain ⟨u, rfl, ru⟩ := rv.one
  obtain ⟨t2, rfl⟩ := ru
  have fin : ∀ (l : List (Str × Tok)) (tk : Nat), l.map (·.1) = Txt.split z y → EP X pins σ Q (.ref s.heap.objs.size) { s with heap := s.heap.push { cls := .type "list", data := .seq (strValues l).toArray }, toks := tk } := fun l tk el =>
    ⟨.ref s.heap.objs.size, _, I.lnew (ys := (Txt.split z y).map V.str) (its := strValues l) (by rw [← el]; exact vals_strs l) (by rw [List.length_map]; exact hz3), rfl, q _ I.fresh⟩
  by_cases c1 : (decide (z.length < y.length) || decide (Builtin.Str.strKind z < Builtin.Str.strKind y)) = true
  · have e : Txt.split z y = [z] := if_pos c1
    exact call_meets F.slot_str_split (typeIs_str _ _ _) F.entry_str_split (F.args_str_split_2 _ _) (meets_str_split_cannot_occur z y t t2 c1) (fin [(z, t)] _ e.symm)
  · have d1 := Bool.eq_false_iff.mpr c1
    by_cases c2 : (Builtin.Str.occurrences z y 0 z.length (z.length + 1)).isEmpty = true
    · have e : Txt.split z y = [z] := (if_neg c1).trans (if_pos c2)
      exact call_meets F.slot_str_split (typeIs_str _ _ _) F.entry_str_split (F.args_str_split_2 _ _) (meets_str_split_not_found z y t t2 d1 hy c2) (fin [(z, t)] _ e.symm)
    · have d2 := Bool.eq_false_iff.mpr c2
      have e : Txt.split z y = Builtin.Str.partsBetween z (Builtin.Str.occurrences z y 0 z.length (z.length + 1)) y.length := (if_neg c1).trans (if_neg c2)
      refine call_meets F.slot_str_split (typeIs_str _ _ _) F.entry_str_split (F.args_str_split_2 _ _) (meets_str_split_sep z y t t2 d1 hy d2 hz hz2) ?_
      have := fin (numbered s.toks (Builtin.Str.partsBetween z (Builtin.Str.occurrences z y 0 z.length (z.length + 1)) y.length)) (s.toks + (Builtin.Str.partsBetween z (Builtin.Str.occurrences z y 0 z.length (z.length + 1)) y.length).length) ((numbered_texts _ _).trans e.symm)
      rw [← strsFrom_eq] at this
      exact this
theorem call_intS : CallR X (.type "int") (fun xs H Q => ∃ (z : Str) (n : Int), xs = [.str z] ∧ PySem.intText? z = some n ∧ z.length ≤ 640 ∧ Q (.int n) H) := by
  intro pins s σ H xs us Q I r h
  obtain ⟨z, n, rfl, hn, hl, q⟩ := h
  obtain ⟨u, rfl, ru⟩ := vals1 r
  obtain ⟨t, rfl⟩ := ru
  exact PySem.W.KIN.call_text hn hl ⟨.int n, H, I.tok _, ⟨s.toks, rfl⟩, q⟩
end
end L2

set_option Elab.async false
set_option linter.all false
set_option maxRecDepth 100000
set_option maxHeartbeats 4000000
namespace L2
open PySem PySem.Spec PyProof.Rows
/-! ### over the signs of a text -/
noncomputable def Its (z : Str) : It := ⟨fun i _ => i < z.cps.size, fun i H x H' => H' = H ∧ ∃ c, z.cps[i]? = some c ∧ x = .str ⟨#[c]⟩, fun i _ => i = z.cps.size⟩
theorem go_str {M : Model} {A : Around} {E : Value → Shared → Prop} {s : Shared} {tg : Expr} {it : Addr} {z : Str} {t : Tok} {Q : Unit → Shared → Prop} (hQ : Q () s) : wpAny M A (letOwnedTupleGo tg (.ref it) (.str z t)) Q E s := by
  unfold letOwnedTupleGo
  cases tg <;> exact wpAny_pure hQ
theorem turn_str {P : Program} {w : World} {K : PySem.W.Frag} {tg : Expr} {it : Addr} {z : Str} {t : Tok} {ty : String} (W : ∀ A : Around, A.handled = none → Walks P w A it [it] [it] z.cps.size (SignAt z) (fun i h => h.IsStrIter it ty z t i))
    (sf : ∀ (A : Around) (i : Nat) (s : Shared) (Q : Value → Shared → Prop) (E : Value → Shared → Prop), s.heap.IsStrIter it ty z t i → Q (.ref it) s → wpAny (model P w) A (pyIter (.ref it)) Q E s) :
    Turn P w K tg (Its z) [it] it (fun i h => h.IsStrIter it ty z t i) where
  mem := by simp
  obj := fun i h st b hb => by
    have e : b = it := by simpa using hb
    subst e
    obtain ⟨o, e, c, d⟩ := st
    exact ⟨o, e, fun v q => by rw [d] at q; cases q⟩
  keep := fun i h h' st k => by
    obtain ⟨o, e, r⟩ := st
    exact ⟨o, k it (by simp) o e, r⟩
  item := by
    intro X hP hw hK hc i pins s σ H E I hf st hg
    subst hP hw hK
    obtain ⟨f0, f1, f2, f3, f4, f5⟩ := hf it (by simp)
    refine (W X.A (I.ok.hd hc)).item i s _ _ hg st fun v h' tk hv st' kk => ?_
    obtain ⟨c, u, hc', rfl⟩ := hv
    have I1 : Inv X pins σ H { s with heap := h', toks := tk } := I.turned (t' := tk) (fun b o hb e => kk b o (by simpa using hb) e) f0 f1 f3 f4 f5
    exact ⟨_, rfl, go_str ⟨.str ⟨#[c]⟩, H, I1, ⟨u, rfl⟩, ⟨rfl, c, hc', rfl⟩, st', fun b hb => (hf b hb).1⟩⟩
  done := by
    intro X hP hw hK hc i pins s σ H E I hf st hg
    subst hP hw hK
    obtain ⟨f0, f1, f2, f3, f4, f5⟩ := hf it (by simp)
    refine (W X.A (I.ok.hd hc)).done s _ _ (hg ▸ st) fun h' tk kk => ⟨rfl, I.turned (t' := tk) (fun b o hb e => kk b o (by simpa using hb) e) f0 f1 f3 f4 f5⟩
  self := sf
noncomputable def iStr (tl : TE) : TI := fun σ H R => tl σ H fun x H1 => ∃ z, x = .str z ∧ R (Its z) H1
theorem pi_str {X : Cx} {tg l : Expr} {tl : TE} (hl : PE X l tl) : PI X tg l (iStr tl) := by
  intro pins s σ H R I h
  refine thn (hl pins s σ H _ I h) fun v s1 ⟨x, H1, I1, r1, q1⟩ => ?_
  obtain ⟨z, rfl, q⟩ := q1
  obtain ⟨t, rfl⟩ := r1
  have fp : ∀ b ∈ [s1.heap.objs.size], FpOk X pins H1 b := fun b hb => by
    have e : b = s1.heap.objs.size := by simpa using hb
    subst e
    exact I1.fpOk (Nat.le_refl _) (I1.hok.fresh (Nat.le_refl _))
  cases ha : z.cps.all (· < 128)
  · exact wpAny_pyIter_wide ha ⟨s1.heap.objs.size, [s1.heap.objs.size], _, _, H1, rfl, I1.kept (t' := s1.toks) fun b o e => Heap.get?_push_of_some _ e, turn_str (fun A hA => Walks.strWide hA _ z t) (fun A i s Q E st h => wpAny_pyIter_striter_wide st h), ⟨_, Heap.get?_push_size _ rfl, rfl, rfl⟩, fp, q⟩
  · exact wpAny_pyIter_ascii ha ⟨s1.heap.objs.size, [s1.heap.objs.size], _, _, H1, rfl, I1.kept (t' := s1.toks) fun b o e => Heap.get?_push_of_some _ e, turn_str (fun A hA => Walks.strAscii hA _ z t) (fun A i s Q E st h => wpAny_pyIter_striter_ascii st h), ⟨_, Heap.get?_push_size _ rfl, rfl, rfl⟩, fp, q⟩
theorem comp_str {z : Str} {c : TC} {tif : TT} {te : TE} {σ : St} {Q : VK} {acc : Addr} {H0 : Hp} (Pv : Nat → List V → Hp → Prop) (h0 : Pv 0 [] H0)
    (hs : ∀ i d ys H, i < z.cps.size → z.cps[i]? = some d → Pv i ys H → c (.str ⟨#[d]⟩) H fun vs => tif (σ ++ vs.map some) H fun b H3 => if b = true then te (σ ++ vs.map some) H3 fun v H4 => H4 acc = some (.lst ys) ∧ ys.length < sizeLine ∧ ∃ m', m' < z.cps.size - i ∧ m' = z.cps.size - (i + 1) ∧ i + 1 ≤ z.cps.size ∧ Pv (i + 1) (ys ++ [v]) (upd H4 acc (.lst (ys ++ [v])))
      else ∃ m', m' < z.cps.size - i ∧ m' = z.cps.size - (i + 1) ∧ i + 1 ≤ z.cps.size ∧ Pv (i + 1) ys H3) (hd : ∀ ys H, Pv z.cps.size ys H → Q (.ref acc) H) :
    CompR (Its z) c tif te σ Q acc H0 := by
  refine ⟨fun i m ys H => m = z.cps.size - i ∧ i ≤ z.cps.size ∧ Pv i ys H, ⟨z.cps.size, by simp, Nat.zero_le _, h0⟩, ?_⟩
  rintro i m ys H ⟨rfl, hi, p⟩
  by_cases hlt : i < z.cps.size
  · refine .inr ⟨hlt, fun x H' hy => ?_⟩
    obtain ⟨rfl, d, hd', rfl⟩ := hy
    exact hs i d ys _ hlt hd' p
  · have e : i = z.cps.size := by omega
    exact .inl ⟨e, hd ys H (e ▸ p)⟩
end L2

set_option Elab.async false
set_option linter.all false
set_option maxRecDepth 100000
set_option maxHeartbeats 4000000
namespace L2
open PySem PySem.Spec PyProof.Rows
/-! ### a tuple's iterator within enumerate and zip -/
section
variable {prog : Program} {w : World} {A : Around} {E : Value → Shared → Prop} {s : Shared}
theorem nextT_item {it a : Addr} {i : Nat} {its : Array Value} {x : Value} {Q : Value → Shared → Prop} (hit : s.heap.IsTupleIter it a i) (ht : s.heap.IsTuple a its) (hx : its[i]? = some x)
    (q : ∀ h', h'.IsTupleIter it a (i + 1) → Heap.SameBut it s.heap h' → Q x { s with heap := h' }) : wpAny (model prog w) A (Builtin.SmallTypes.nextOf (.ref it)) Q E s := by
  obtain ⟨ob, g1, g2, g3⟩ := id hit
  obtain ⟨tb, k1, _, kn, k2⟩ := ht
  unfold Builtin.SmallTypes.nextOf; refine wpAny_bind (wpAny_callSpecial?_slot (name := Str.ofString "__next__") hit.typeIs F.slot_tuple_iterator_next (wpAny_call_entry F.slot_tuple_iterator_next hit.typeIs F.entry_tuple_iterator_next ?_ (F.args_tuple_iterator_next_1 _)))
  show wpAny _ _ (field (.ref it) 0 >>= _) _ _ s; refine wpAny_bind (wpAny_field g1 g3 (x := .ref a) rfl ?_)
  show wpAny _ _ (if (Value.ref a == Value.none) = true then _ else _) _ _ s; rw [if_neg (show ¬ ((Value.ref a == Value.none) = true) from Bool.false_ne_true)]
  show wpAny _ _ (field (.ref it) 1 >>= _) _ _ s; refine wpAny_bind (wpAny_field g1 g3 (x := .int i 0) rfl ?_)
  show wpAny _ _ (seqItems? (.ref a) >>= _) _ _ s; refine wpAny_bind (wpAny_seqItems k1 k2 ?_)
  simp only [hx, Int.toNat_natCast]
  refine wpAny_bind (wpAny_setField g1 g3 (by simp) (wpAny_pure ⟨x, rfl, wpAny_pure (q _ ?_ (Heap.SameBut.update ..))⟩))
  refine ⟨_, Heap.get?_update_self _ g1 (Obj.isFreed_of_fields (Obj.data_mapFields g3 _)), (Obj.cls_mapFields ..).trans g2, ?_⟩
  rw [Obj.data_mapFields g3]; simp [rawInt]
theorem nextT_end {it a : Addr} {i : Nat} {its : Array Value} {Q : Value → Shared → Prop} (hh : A.handled = none) (hit : s.heap.IsTupleIter it a i) (ht : s.heap.IsTuple a its) (hx : its[i]? = none)
    (q : ∀ h' e, Heap.ExtBut it s.heap h' → (∃ o, h'.get? e = some o ∧ o.cls = .type "StopIteration") → E (.ref e) { s with heap := h' }) : wpAny (model prog w) A (Builtin.SmallTypes.nextOf (.ref it)) Q E s := by
  obtain ⟨ob, g1, g2, g3⟩ := id hit
  obtain ⟨tb, k1, _, kn, k2⟩ := ht
  unfold Builtin.SmallTypes.nextOf; refine wpAny_bind (wpAny_callSpecial?_slot (name := Str.ofString "__next__") hit.typeIs F.slot_tuple_iterator_next (wpAny_call_entry F.slot_tuple_iterator_next hit.typeIs F.entry_tuple_iterator_next ?_ (F.args_tuple_iterator_next_1 _)))
  show wpAny _ _ (field (.ref it) 0 >>= _) _ _ s; refine wpAny_bind (wpAny_field g1 g3 (x := .ref a) rfl ?_)
  show wpAny _ _ (if (Value.ref a == Value.none) = true then _ else _) _ _ s; rw [if_neg (show ¬ ((Value.ref a == Value.none) = true) from Bool.false_ne_true)]
  show wpAny _ _ (field (.ref it) 1 >>= _) _ _ s; refine wpAny_bind (wpAny_field g1 g3 (x := .int i 0) rfl ?_)
  show wpAny _ _ (seqItems? (.ref a) >>= _) _ _ s; refine wpAny_bind (wpAny_seqItems k1 k2 ?_)
  simp only [hx, Int.toNat_natCast]
  refine wpAny_bind (wpAny_rule (wpAny_bind (wpAny_setField g1 g3 (by simp) ?_)))
  show wpAny _ _ (newExc (.type "StopIteration") [] >>= _) _ _ _; refine wpAny_bind ?_
  simp only [newTuple, newExc]
  refine wpAny_bind (wpAny_newObj_type ?_ (by size_fits)); refine wpAny_bind (m := firstArgMember _ _) (wpAny_of_eq (a := Value.none) (by first | rfl | (simp only [firstArgMember]; rfl)) ?_)
  refine wpAny_newObj_type ?_ (by size_fits); simp only [raiseNew]
  refine wpAny_bind (wpAny_handled ?_); first | rw [show A.in1.handled = none from hh] | rw [hh]
  refine wpAny_bind (wpAny_pure (wpAny_throw ?_))
  exact q _ _ (((Heap.SameBut.update ..).extBut.push _).push _) ⟨_, Heap.get?_push_size _ rfl, rfl⟩
end
theorem draws_tup {prog : Program} {w : World} {A : Around} (hh : A.handled = none) (it a : Addr) (hne : a ≠ it) (its : Array Value) : Draws prog w A it [it, a] its.size (fun i v => its[i]? = some v) (fun i h => h.IsTupleIter it a i ∧ h.IsTuple a its) where
  live := fun i h st => by obtain ⟨⟨o, e, _⟩, _⟩ := st; exact ⟨o, e⟩
  frame := fun i h h' st k => by
    obtain ⟨⟨o, e, r⟩, ⟨o2, e2, r2⟩⟩ := st
    exact ⟨⟨o, k it (by simp) o e, r⟩, ⟨o2, k a (by simp) o2 e2, r2⟩⟩
  item := fun i s Q E hi st q => by
    refine nextT_item st.1 st.2 (x := its[i]) (by simp [hi]) fun h' t' sb => ?_
    exact q _ h' s.toks (by simp [hi]) ⟨t', st.2.extBut sb.extBut hne⟩ sb
  done := fun s Q E st q => nextT_end hh st.1 st.2 (by simp) q
end L2

set_option Elab.async false
set_option linter.all false
set_option maxRecDepth 100000
set_option maxHeartbeats 4000000
namespace L2
open PySem PySem.Spec PyProof.Rows
open AutoSeq1 (wpAny_loadPart')
/-! ### enumerate of a tuple -/
theorem enum_newT (a : Addr) (its : Array Value) (n : Nat) (dd : Option Addr) (sl : Array (Option Value)) :
    Meets (Builtin.«enumerate.__new__» ⟨[.type "enumerate", .ref a], []⟩) (fun _ R s => s.heap.get? a = some { cls := .type "tuple", dict := dd, data := .seq its n, slots := sl } ∧
      R (.ok (.ret (.ref (s.heap.push { cls := .type "tuple_iterator", data := .fields #[.ref a, .int 0 0] }).objs.size)))
        { s with heap := (s.heap.push { cls := .type "tuple_iterator", data := .fields #[.ref a, .int 0 0] }).push { cls := .type "enumerate", data := .fields #[.none, .bool false, .ref s.heap.objs.size, rawInt 0, .none, .none] } }) :=
  .of_wp fun prog w A R s h => by
    obtain ⟨hp, g, d, tk, os⟩ := s; obtain ⟨ha, h⟩ := h
    have sb := sub_enumerate
    have hT : Heap.IsTuple (Shared.heap ⟨hp, g, d, tk, os⟩) a its := ⟨_, ha, rfl, n, rfl⟩
    wp_walk using wpAny_loadPart' ha
    refine wpAny_stack_any fun st => wpAny_pure ?_
    split
    · rename_i c _ _ _ _ _
      cases (c == Value.type "enumerate")
      · wp_walk using wpAny_loadPart' ha, wpAny_pyIter_tuple hT
        exact ⟨_, rfl, h⟩
      · wp_walk using wpAny_loadPart' ha, wpAny_pyIter_tuple hT
        exact ⟨_, rfl, h⟩
    · wp_walk using wpAny_loadPart' ha, wpAny_pyIter_tuple hT
      exact ⟨_, rfl, h⟩
section
variable {prog : Program} {w : World} {A : Around} {E : Value → Shared → Prop} {s : Shared}
theorem call_enumT {a : Addr} {its : Array Value} {Q : Value → Shared → Prop} (hT : s.heap.IsTuple a its)
    (q : ∀ h', IsEnum h' (s.heap.objs.size + 1) s.heap.objs.size 0 .none → h'.IsTupleIter s.heap.objs.size a 0 → (∀ b o, s.heap.get? b = some o → h'.get? b = some o) → Q (.ref (s.heap.objs.size + 1)) { s with heap := h' }) :
    wpAny (model prog w) A (call (.type "enumerate") [.ref a]) Q E s := by
  obtain ⟨⟨c, dd, dt, sl⟩, ha, hc, n, hd⟩ := hT
  obtain rfl : c = .type "tuple" := hc
  obtain rfl : dt = .seq its n := hd
  refine callType_new F.called_enumerate (by decide) (F.typeCall_enumerate_1 _) (F.newCall_enumerate_1 _) (fun obj => F.args_object_init_2 obj _) F.entry_enumerate_new (enum_newT a its n dd sl) ⟨ha, ?_⟩
  have sz : (s.heap.push { cls := .type "tuple_iterator", data := .fields #[.ref a, .int 0 0] }).objs.size = s.heap.objs.size + 1 := Heap.size_push ..
  show _ ∧ _
  rw [sz]
  have he : IsEnum ((s.heap.push { cls := .type "tuple_iterator", data := .fields #[.ref a, .int 0 0] }).push { cls := .type "enumerate", data := .fields #[.none, .bool false, .ref s.heap.objs.size, rawInt 0, .none, .none] }) (s.heap.objs.size + 1) s.heap.objs.size 0 .none := by
    have := Heap.get?_push_size (s.heap.push { cls := .type "tuple_iterator", data := .fields #[.ref a, .int 0 0] }) (o := { cls := .type "enumerate", data := .fields #[.none, .bool false, .ref s.heap.objs.size, rawInt 0, .none, .none] }) rfl
    rw [sz] at this; exact this
  exact ⟨⟨_, he, rfl⟩, q _ he ⟨_, Heap.get?_push_of_some _ (Heap.get?_push_size _ rfl), rfl, rfl⟩ fun b o x => Heap.get?_push_of_some _ (Heap.get?_push_of_some _ x)⟩
end
noncomputable def Ite (K : PySem.W.Frag) (a : Addr) : It :=
  ⟨fun i H => ∃ xs x, SqT K H a xs ∧ xs[i]? = some x,
   fun i H v H' => ∃ T x, H T = none ∧ v = .ref T ∧ (∀ xs, SqT K H a xs → xs[i]? = some x) ∧ H' = upd H T (.tup [.int i, x]),
   fun i H => ∃ xs, SqT K H a xs ∧ i = xs.length⟩
theorem turn_enum {P : Program} {w : World} {K : PySem.W.Frag} {elts : List Expr} {k : Nat} {pos : Pos} {e it a : Addr} (hei : e ≠ it) (hae : a ≠ e) (hai : a ≠ it) :
    Turn P w K (.Tuple elts k pos) (Ite K a) [e, it] e (fun i h => (∃ old, IsEnum h e it i old) ∧ h.IsTupleIter it a i) where
  mem := by simp
  obj := fun i h st b hb => by
    obtain ⟨⟨old, he⟩, ⟨o, e1, c, d⟩⟩ := st
    simp at hb
    rcases hb with rfl | rfl
    · exact ⟨_, he, fun v q => nomatch q⟩
    · exact ⟨o, e1, fun v q => by rw [d] at q; cases q⟩
  keep := fun i h h' st kk => by
    obtain ⟨⟨old, he⟩, ⟨o, e1, r⟩⟩ := st
    exact ⟨⟨old, kk e (by simp) _ he⟩, ⟨o, kk it (by simp) o e1, r⟩⟩
  item := by
    intro X hP hw hK hc i pins s σ H E I hf st hg
    subst hP hw hK
    obtain ⟨xs, x, hx, ex⟩ := hg
    obtain ⟨its, rv, p, z1⟩ := I.tuple hx
    obtain ⟨u, eu, ru⟩ := rv.get ex
    have hh : X.A.in1.handled = none := I.ok.hd hc
    have W := WalksT.enumerateD (prog := X.prog) (w := X.w) (A := X.A) (draws_tup hh it a hai its.toArray) e hei (by simp; exact ⟨hei, hae.symm⟩) (by simp)
    have hn : i < its.toArray.size := by
      have := (List.getElem?_eq_some_iff.mp eu).1
      simpa using this
    refine W.item i s _ _ hn ⟨st.1, st.2, p⟩ fun T vals h' tk hPt hnew hT hMid kk => ?_
    refine ⟨.ref T, rfl, ?_⟩
    refine W.go elts k pos i T _ _ _ hMid fun h'' st'' kk2 => ?_
    obtain ⟨tt, x', ex', rfl⟩ := hPt
    obtain rfl : x' = u := by
      have : its[i]? = some x' := by simpa using ex'
      rw [eu] at this; exact (Option.some.inj this).symm
    have hTw := W.apart i T _ hMid
    have k3 : ∀ b o, b ∉ [e, it] → s.heap.get? b = some o → h''.get? b = some o := fun b o hb q => kk2 b o hb (kk b o hb q)
    have nT : H T = none := I.hok.fresh hnew
    obtain ⟨oT, eT, cT, nn, dT⟩ := hT
    have eT2 : h''.get? T = some oT := kk2 T oT hTw eT
    have ok : ObjOk X.prog X.w (upd H T (.tup [.int i, x])) h'' T (.tup [.int i, x]) := ⟨by show 2 ≤ sizeLine; decide, [.int i tt, x'], .cons ⟨tt, rfl⟩ (.cons ru .nil), oT, eT2, cT, nn, by simpa using dT⟩
    have I2 : Inv X pins σ (upd H T (.tup [.int i, x])) { s with heap := h'', toks := tk } := I.turnedNew (ch := [e, it]) (fun b hb => hf b hb) k3 hnew ok
    have hob : ∀ b ∈ [e, it], ∃ o, s.heap.get? b = some o := fun b hb => by
      obtain ⟨⟨old, he⟩, ⟨o, e1, r⟩⟩ := st
      simp at hb
      rcases hb with rfl | rfl
      · exact ⟨_, he⟩
      · exact ⟨o, e1⟩
    refine ⟨.ref T, upd H T (.tup [.int i, x]), I2, rfl, ⟨T, x, nT, rfl, fun vs hv => by rw [I.tuple_inj hv hx]; exact ex, rfl⟩, ⟨st''.1, st''.2.1⟩, fun b hb => ?_⟩
    rw [upd_ne ?_]
    · exact (hf b hb).1
    · intro zz
      obtain ⟨o, eo⟩ := hob b hb
      exact absurd (Nat.lt_of_lt_of_le (Heap.lt_size eo) (zz ▸ hnew)) (Nat.lt_irrefl _)
  done := by
    intro X hP hw hK hc i pins s σ H E I hf st hg
    subst hP hw hK
    obtain ⟨xs, hx, ei⟩ := hg
    obtain ⟨its, rv, p, z1⟩ := I.tuple hx
    have hh : X.A.in1.handled = none := I.ok.hd hc
    have W := WalksT.enumerateD (prog := X.prog) (w := X.w) (A := X.A) (draws_tup hh it a hai its.toArray) e hei (by simp; exact ⟨hei, hae.symm⟩) (by simp)
    have l1 := rv.length
    have hn : i = its.toArray.size := by simp; omega
    refine W.done s _ _ (hn ▸ ⟨st.1, st.2, p⟩) fun h' tk kk => ⟨rfl, ?_⟩
    exact I.turnedL (ch := [e, it]) (fun b hb => hf b hb) kk
  self := fun _ _ _ _ _ st h => by
    obtain ⟨⟨old, he⟩, _⟩ := st
    exact wpAny_pyIter_enum he h
noncomputable def iEnum (K : PySem.W.Frag) (ta : TA) : TI := fun σ H R => ta σ H fun vs H1 => ∃ a : Addr, vs = [.ref a] ∧ (∃ xs, SqT K H1 a xs) ∧ R (Ite K a) H1
theorem pi_enum {X : Cx} {elts : List Expr} {k : Nat} {tpos : Pos} {a : Expr} {ta : TA} {p pos : Pos} (hg : Gl X "enumerate") (hm : X.mg "enumerate" = none) (ha : PA X [a] ta) (hs : starEach [a] X.env = [(false, eval a X.env)] := by rfl) (hs2 : starEach [] X.env = [] := by rfl) :
    PI X (.Tuple elts k tpos) (.Call (.Name "enumerate" p) [a] [] pos) (iEnum X.K ta) := by
  intro pins s σ H R I h
  refine Call_ (ld_blt I hg hm (show bootBuiltins "enumerate" = some (.type "enumerate") by decide +kernel) (PyProof.Rows.callWith_type1 (thn (ha pos pins s σ H _ I h) fun us s1 ⟨vs, H1, I1, r1, q1⟩ => ?_) (by rw [hs, hs2]) (by rw [hs2]; rfl)))
  obtain ⟨l1, e, ⟨xs, hx⟩, q⟩ := q1
  subst e
  obtain ⟨u, rfl, ru⟩ := vals1 r1
  cases (show u = Value.ref l1 from ru)
  obtain ⟨its, rv, p1, z1⟩ := I1.tuple hx
  have hlt : l1 < s1.heap.objs.size := by
    obtain ⟨o1, e1, _⟩ := id (show s1.heap.IsTuple l1 its.toArray from p1)
    exact Heap.lt_size e1
  refine call_enumT (show s1.heap.IsTuple l1 its.toArray from p1) fun h' he hi hk => ?_
  refine wpAny_pyIter_enum he ?_
  refine ⟨s1.heap.objs.size + 1, [s1.heap.objs.size + 1, s1.heap.objs.size], _, _, H1, rfl, I1.kept (t' := s1.toks) hk, turn_enum (Nat.succ_ne_self _) (Nat.ne_of_lt (Nat.lt_succ_of_lt hlt)) (Nat.ne_of_lt hlt), ⟨⟨_, he⟩, hi⟩, fun b hb => ?_, q⟩
  have hb' : s1.heap.objs.size ≤ b := by
    simp at hb
    rcases hb with rfl | rfl <;> first | exact Nat.le_succ _ | exact Nat.le_refl _
  exact I1.fpOk hb' (I1.hok.fresh hb')
theorem for_enum {K : PySem.W.Frag} {a : Addr} {xs : List V} {g : TG} {tb : TS} {D : Ends} {σ : St} {H : Hp} (Pv : Nat → St → Hp → Prop) (h0 : Pv 0 σ H) (hl : ∀ i σ H, i ≤ xs.length → Pv i σ H → SqT K H a xs)
    (hs : ∀ i x T σ H, xs[i]? = some x → Pv i σ H → H T = none → g (.ref T) σ (upd H T (.tup [.int i, x])) fun σ2 H2 => tb { D with nx := Pv (i + 1), ct := Pv (i + 1), bk := D.nx } σ2 H2) (hd : ∀ σ H, Pv xs.length σ H → D.nx σ H) :
    ∃ W : Nat → Nat → St → Hp → Prop, (∃ m, W 0 m σ H) ∧ ∀ i m σ H, W i m σ H →
      ((Ite K a).stop i H ∧ D.nx σ H) ∨ ((Ite K a).go i H ∧ ∃ N : St → Hp → Prop, (∀ σ' H', N σ' H' → ∃ m', m' < m ∧ W (i + 1) m' σ' H') ∧ ∀ x H', (Ite K a).yld i H x H' → g x σ H' fun σ2 H2 => tb { D with nx := N, ct := N, bk := D.nx } σ2 H2) := by
  refine ⟨fun i m σ H => m = xs.length - i ∧ i ≤ xs.length ∧ Pv i σ H, ⟨xs.length, by simp, Nat.zero_le _, h0⟩, ?_⟩
  rintro i m σ H ⟨rfl, hi, p⟩
  have q := hl i σ H hi p
  by_cases hlt : i < xs.length
  · refine .inr ⟨⟨xs, xs[i], q, by simp [hlt]⟩, Pv (i + 1), fun σ' H' p' => ⟨xs.length - (i + 1), by omega, rfl, hlt, p'⟩, fun v H' y => ?_⟩
    obtain ⟨T, x, nT, rfl, hx, rfl⟩ := y
    exact hs i x T σ H (hx xs q) p nT
  · have e : i = xs.length := by omega
    subst e
    exact .inl ⟨⟨xs, q, rfl⟩, hd σ H p⟩
end L2

set_option Elab.async false
set_option linter.all false
set_option maxRecDepth 100000
set_option maxHeartbeats 4000000
namespace L2
open PySem PySem.Spec PyProof.Rows
/-! ### zip of a tuple and a list -/
section
variable {prog : Program} {w : World} {A : Around} {E : Value → Shared → Prop} {s : Shared}
theorem zt_item {z TI TO i1 i2 l1 l2 : Addr} {m n : Nat} {xs ys : Array Value} {x y a b : Value} {Q : Value → Shared → Prop} (D : ZipApart z TI TO i1 i2 l1 l2)
    (gz : IsZip s.heap z TI TO .none) (gi : IsPair s.heap TI (.ref i1) (.ref i2)) (go : IsPair s.heap TO a b) (g1 : s.heap.IsTupleIter i1 l1 m) (g2 : s.heap.IsListIter i2 l2 n) (t1 : s.heap.IsTuple l1 xs) (t2 : s.heap.IsList l2 ys) (ex : xs[m]? = some x) (ey : ys[n]? = some y)
    (q : ∀ h', IsZip h' z TI TO (rawInt s.heap.objs.size) → IsPair h' TO x y → h'.IsTupleIter i1 l1 (m + 1) → h'.IsListIter i2 l2 (n + 1) → IsPair h' s.heap.objs.size x y → (∀ c o, c ≠ z → c ≠ TO → c ≠ i1 → c ≠ i2 → s.heap.get? c = some o → h'.get? c = some o) → Q (.ref s.heap.objs.size) { s with heap := h' }) :
    wpAny (model prog w) A (Builtin.«zip.__next__» ⟨[.ref z], []⟩) (fun fin s' => ∃ v, fin = .done (.ret v) ∧ Q v s') E s := by
  show wpAny _ _ (field (.ref z) 2 >>= _) _ _ _; refine wpAny_bind (wpAny_field gz rfl (x := .bool false) rfl ?_)
  show wpAny _ _ (field (.ref z) 3 >>= _) _ _ _; refine wpAny_bind (wpAny_field gz rfl (x := .ref TI) rfl ?_)
  refine wpAny_bind (wpAny_seqItems gi rfl ?_)
  show wpAny _ _ (Builtin.SmallTypes.ownedTupleIsFree (.ref z) >>= _) _ _ _; refine wpAny_bind ?_
  unfold Builtin.SmallTypes.ownedTupleIsFree; refine wpAny_bind (wpAny_field gz rfl (x := .none) rfl (wpAny_pure ?_))
  simp only [if_true]; refine wpAny_bind (wpAny_rule ?_)
  refine wpAny_bind (wpAny_field gz rfl (x := .ref TO) rfl ?_)
  refine wpAny_bind (wpAny_setField_rec gz (by simp) fun a1 z1 s1 => ?_)
  replace z1 : IsZip a1 z TI TO .ellipsis := z1
  refine wpAny_bind ?_
  simp only [List.forIn_cons, List.forIn_nil, List.zipIdx_cons, List.zipIdx_nil]
  refine wpAny_bind (wpAny_bind (wpAny_onRaise ?_)); show wpAny _ _ (Builtin.SmallTypes.nextOf (.ref i1) >>= _) _ _ _
  refine wpAny_bind (nextT_item (g1.extBut s1.extBut D.i1z) (t1.extBut s1.extBut D.l1z) ex fun a2 u2 s2 => wpAny_pure ?_)
  have o2 : IsPair a2 TO a b := s2.extBut _ _ D.TOi1 (s1.extBut _ _ D.TOz go)
  refine wpAny_bind (wpAny_seqItems o2 rfl ?_); refine wpAny_bind (wpAny_updateSeq_pair o2 fun a3 o3 s3 => ?_)
  replace o3 : IsPair a3 TO x b := o3
  refine wpAny_bind (wpAny_letGo (wpAny_pure ?_)); refine wpAny_bind (wpAny_bind (wpAny_onRaise ?_))
  show wpAny _ _ (Builtin.SmallTypes.nextOf (.ref i2) >>= _) _ _ _
  have w2 := ((g2.extBut s1.extBut D.i2z).extBut s2.extBut D.i12.symm).extBut s3.extBut D.TOi2.symm
  have v2 := ((t2.extBut s1.extBut D.l2z).extBut s2.extBut D.l2i1).extBut s3.extBut D.l2TO
  refine wpAny_bind (wpAny_nextOf_list_item w2 v2 ey fun a4 u4 s4 => wpAny_pure ?_)
  have o4 : IsPair a4 TO x b := s4.extBut _ _ D.TOi2 o3
  refine wpAny_bind (wpAny_seqItems o4 rfl ?_); refine wpAny_bind (wpAny_updateSeq_pair o4 fun a5 o5 s5 => ?_)
  replace o5 : IsPair a5 TO x y := o5
  refine wpAny_bind (wpAny_letGo (wpAny_pure (wpAny_pure ?_))); refine wpAny_bind (wpAny_seqItems o5 rfl ?_)
  refine wpAny_bind (wpAny_newTuple ?_)
  have sz : a5.objs.size = s.heap.objs.size := by rw [s5.1, s4.1, s3.1, s2.1, s1.1]
  have z5 : IsZip a5 z TI TO .ellipsis := s5.extBut _ _ D.TOz.symm (s4.extBut _ _ D.i2z.symm (s3.extBut _ _ D.TOz.symm (s2.extBut _ _ D.i1z.symm z1)))
  have kp : ∀ c o, c ≠ z → c ≠ TO → c ≠ i1 → c ≠ i2 → s.heap.get? c = some o → a5.get? c = some o := fun c o n1 n2 n3 n4 e => s5.extBut _ _ n2 (s4.extBut _ _ n4 (s3.extBut _ _ n2 (s2.extBut _ _ n3 (s1.extBut _ _ n1 e))))
  have p1 : a5.IsTupleIter i1 l1 (m + 1) := ((u2.extBut s3.extBut D.TOi1.symm).extBut s4.extBut D.i12).extBut s5.extBut D.TOi1.symm
  have p2 : a5.IsListIter i2 l2 (n + 1) := u4.extBut s5.extBut D.TOi2.symm
  have zl : z < a5.objs.size := Heap.lt_size z5
  show wpAny _ _ (Builtin.SmallTypes.ownedTupleHandOut (.ref z) (.ref a5.objs.size) >>= _) _ _ _; refine wpAny_bind ?_
  unfold Builtin.SmallTypes.ownedTupleHandOut
  have z6 : IsZip (a5.push { cls := .type "tuple", data := .seq #[x, y] }) z TI TO .ellipsis := Heap.get?_push_of_some _ z5
  refine wpAny_bind (wpAny_setField_rec z6 (by simp) fun a7 z7 s7 => ?_)
  replace z7 : IsZip a7 z TI TO (rawInt a5.objs.size) := z7
  refine wpAny_setField_rec z7 (by simp) fun a8 z8 s8 => ?_
  replace z8 : IsZip a8 z TI TO (rawInt a5.objs.size) := z8
  have up : ∀ c o, c ≠ z → a5.get? c = some o → a8.get? c = some o := fun c o n1 e => s8.extBut _ _ n1 (s7.extBut _ _ n1 (Heap.get?_push_of_some _ e))
  have pt : IsPair a8 a5.objs.size x y := s8.extBut _ _ (Nat.ne_of_gt zl) (s7.extBut _ _ (Nat.ne_of_gt zl) (Heap.get?_push_size _ rfl))
  rw [sz] at z8 pt
  refine wpAny_pure ⟨_, rfl, ?_⟩
  show Q (.ref a5.objs.size) _
  rw [sz]
  have p1' : a8.IsTupleIter i1 l1 (m + 1) := by obtain ⟨o, e, r⟩ := p1; exact ⟨o, up _ o D.i1z e, r⟩
  exact q a8 z8 (up _ _ D.TOz o5) p1' (p2.at fun o e => up _ o D.i2z e) pt fun c o n1 n2 n3 n4 e => up c o n1 (kp c o n1 n2 n3 n4 e)
theorem zt_end {z TI TO i1 i2 l1 l2 : Addr} {m n : Nat} {xs ys : Array Value} {a b : Value} {Q : Fin → Shared → Prop} (hh : A.handled = none) (D : ZipApart z TI TO i1 i2 l1 l2)
    (gz : IsZip s.heap z TI TO .none) (gi : IsPair s.heap TI (.ref i1) (.ref i2)) (go : IsPair s.heap TO a b) (g1 : s.heap.IsTupleIter i1 l1 m) (t1 : s.heap.IsTuple l1 xs) (ex : xs[m]? = none)
    (q : ∀ h' e, (∀ c o, c ≠ z → c ≠ TO → c ≠ i1 → c ≠ i2 → s.heap.get? c = some o → h'.get? c = some o) → (∃ o, h'.get? e = some o ∧ o.cls = .type "StopIteration") → E (.ref e) { s with heap := h' }) :
    wpAny (model prog w) A (Builtin.«zip.__next__» ⟨[.ref z], []⟩) Q E s := by
  show wpAny _ _ (field (.ref z) 2 >>= _) _ _ _; refine wpAny_bind (wpAny_field gz rfl (x := .bool false) rfl ?_)
  show wpAny _ _ (field (.ref z) 3 >>= _) _ _ _; refine wpAny_bind (wpAny_field gz rfl (x := .ref TI) rfl ?_)
  refine wpAny_bind (wpAny_seqItems gi rfl ?_)
  show wpAny _ _ (Builtin.SmallTypes.ownedTupleIsFree (.ref z) >>= _) _ _ _; refine wpAny_bind ?_
  unfold Builtin.SmallTypes.ownedTupleIsFree; refine wpAny_bind (wpAny_field gz rfl (x := .none) rfl (wpAny_pure ?_))
  simp only [if_true]; refine wpAny_bind (wpAny_rule ?_)
  refine wpAny_bind (wpAny_field gz rfl (x := .ref TO) rfl ?_)
  refine wpAny_bind (wpAny_setField_rec gz (by simp) fun a1 z1 s1 => ?_)
  replace z1 : IsZip a1 z TI TO .ellipsis := z1
  refine wpAny_bind ?_
  simp only [List.forIn_cons, List.forIn_nil, List.zipIdx_cons, List.zipIdx_nil]
  refine wpAny_bind (wpAny_bind (wpAny_onRaise ?_)); show wpAny _ _ (Builtin.SmallTypes.nextOf (.ref i1) >>= _) _ _ _
  refine wpAny_bind (nextT_end hh (g1.extBut s1.extBut D.i1z) (t1.extBut s1.extBut D.l1z) ex fun a2 e s2 he => ?_)
  obtain ⟨oe, e1, e2⟩ := he
  have z2 : IsZip a2 z TI TO .ellipsis := s2 _ _ D.i1z.symm z1
  have ne : e ≠ z := fun zz => by subst zz; rw [z2] at e1; cases e1; simp at e2
  exact wpAny_setField_rec z2 (by simp) fun a3 _ s3 => q a3 e (fun c o n1 _ n3 _ u => s3.extBut _ _ n1 (s2 _ _ n3 (s1.extBut _ _ n1 u))) ⟨oe, s3.extBut _ _ ne e1, e2⟩
theorem zt_next {z TI TO i1 i2 l1 l2 : Addr} {m n : Nat} {xs ys : Array Value} {x y a b : Value} {Q : Option Value → Shared → Prop} (D : ZipApart z TI TO i1 i2 l1 l2)
    (gz : IsZip s.heap z TI TO .none) (gi : IsPair s.heap TI (.ref i1) (.ref i2)) (go : IsPair s.heap TO a b) (g1 : s.heap.IsTupleIter i1 l1 m) (g2 : s.heap.IsListIter i2 l2 n) (t1 : s.heap.IsTuple l1 xs) (t2 : s.heap.IsList l2 ys) (ex : xs[m]? = some x) (ey : ys[n]? = some y)
    (q : ∀ h', IsZip h' z TI TO (rawInt s.heap.objs.size) → IsPair h' TO x y → h'.IsTupleIter i1 l1 (m + 1) → h'.IsListIter i2 l2 (n + 1) → IsPair h' s.heap.objs.size x y → (∀ c o, c ≠ z → c ≠ TO → c ≠ i1 → c ≠ i2 → s.heap.get? c = some o → h'.get? c = some o) → Q (some (.ref s.heap.objs.size)) { s with heap := h' }) :
    wpAny (model prog w) A (pyNext (.ref z)) Q E s := by
  have ty : s.TypeIs (.ref z) "zip" := ⟨_, gz, rfl⟩
  unfold pyNext; refine wpAny_bind (wpAny_attempt (wpAny_callSpecial?_slot (name := Str.ofString "__next__") ty F.slot_zip_next (wpAny_call_entry F.slot_zip_next ty F.entry_zip_next ?_ (F.args_zip_next_1 _))))
  exact zt_item D gz gi go g1 g2 t1 t2 ex ey fun h' c1 c2 c3 c4 c5 c6 => wpAny_pure (q h' c1 c2 c3 c4 c5 c6)
theorem zt_stop {z TI TO i1 i2 l1 l2 : Addr} {m n : Nat} {xs : Array Value} {a b : Value} {Q : Option Value → Shared → Prop} (hh : A.handled = none) (D : ZipApart z TI TO i1 i2 l1 l2)
    (gz : IsZip s.heap z TI TO .none) (gi : IsPair s.heap TI (.ref i1) (.ref i2)) (go : IsPair s.heap TO a b) (g1 : s.heap.IsTupleIter i1 l1 m) (t1 : s.heap.IsTuple l1 xs) (ex : xs[m]? = none)
    (q : ∀ h', (∀ c o, c ≠ z → c ≠ TO → c ≠ i1 → c ≠ i2 → s.heap.get? c = some o → h'.get? c = some o) → Q none { s with heap := h' }) : wpAny (model prog w) A (pyNext (.ref z)) Q E s := by
  have ty : s.TypeIs (.ref z) "zip" := ⟨_, gz, rfl⟩
  unfold pyNext; refine wpAny_bind (wpAny_attempt (wpAny_callSpecial?_slot (name := Str.ofString "__next__") ty F.slot_zip_next (wpAny_call_entry F.slot_zip_next ty F.entry_zip_next ?_ (F.args_zip_next_1 _))))
  refine zt_end (ys := #[]) (n := 0) (i2 := i2) (l2 := l2) hh D gz gi go g1 t1 ex fun h' e kp he => ?_
  obtain ⟨o, e1, e2⟩ := he
  refine wpAny_bind (wpAny_isInstance (T := "StopIteration") (b := true) ⟨o, e1, e2⟩ isSubtype_stop (wpAny_pure (q _ kp)))
end
noncomputable abbrev ztH1 (h : Heap) (a : Addr) : Heap := h.push { cls := .type "tuple_iterator", data := .fields #[.ref a, .int 0 0] }
noncomputable abbrev ztH2 (h : Heap) (a b : Addr) : Heap := (ztH1 h a).push { cls := .type "list_iterator", data := .fields #[.ref b, .int 0 0] }
noncomputable abbrev ztH3 (h : Heap) (a b : Addr) : Heap := (ztH2 h a b).push { cls := .type "tuple", data := .seq #[.ref h.objs.size, .ref (ztH1 h a).objs.size] }
noncomputable abbrev ztH4 (h : Heap) (a b : Addr) : Heap := (ztH3 h a b).push { cls := .type "tuple", data := .seq #[.none, .none] }
noncomputable abbrev ztH5 (h : Heap) (a b : Addr) : Heap := (ztH4 h a b).push { cls := .type "zip", data := .fields #[.none, .bool false, .bool false, .ref (ztH2 h a b).objs.size, .ref (ztH3 h a b).objs.size] }
theorem zt_new (a b : Addr) (xs ys : Array Value) : Meets (Builtin.«zip.__new__» ⟨[.type "zip", .ref a, .ref b], []⟩) (fun _ R s => s.heap.IsTuple a xs ∧ s.heap.IsList b ys ∧ R (.ok (.ret (.ref (ztH4 s.heap a b).objs.size))) { s with heap := ztH5 s.heap a b }) :=
  .of_wp fun prog w A R s h => by
    obtain ⟨hp, g, d, tk, os⟩ := s; obtain ⟨t1, t2, h⟩ := h
    have sb := sub_zip
    have T1 : Heap.IsTuple (Shared.heap ⟨hp, g, d, tk, os⟩) a xs := t1
    have T2 : Heap.IsList (Shared.heap ⟨hp.push { cls := .type "tuple_iterator", data := .fields #[.ref a, .int 0 0] }, g, d, tk, os⟩) b ys := Heap.IsList.push t2 _
    wp_walk using wpAny_pyIter_tuple T1, wpAny_pyIter_list T2
    exact ⟨_, rfl, h⟩
section
variable {prog : Program} {w : World} {A : Around} {E : Value → Shared → Prop} {s : Shared}
theorem call_zt {a b : Addr} {xs ys : Array Value} {Q : Value → Shared → Prop} (t1 : s.heap.IsTuple a xs) (t2 : s.heap.IsList b ys)
    (q : ∀ h', IsZip h' (s.heap.objs.size + 4) (s.heap.objs.size + 2) (s.heap.objs.size + 3) .none → IsPair h' (s.heap.objs.size + 2) (.ref s.heap.objs.size) (.ref (s.heap.objs.size + 1)) →
      IsPair h' (s.heap.objs.size + 3) .none .none → h'.IsTupleIter s.heap.objs.size a 0 → h'.IsListIter (s.heap.objs.size + 1) b 0 → (∀ c o, s.heap.get? c = some o → h'.get? c = some o) → Q (.ref (s.heap.objs.size + 4)) { s with heap := h' }) :
    wpAny (model prog w) A (call (.type "zip") [.ref a, .ref b]) Q E s := by
  refine callType_new F.called_zip (by decide) (F.typeCall_zip_2 _ _) (F.newCall_zip_2 _ _) (fun obj => F.args_object_init_3 obj _ _) F.entry_zip_new (zt_new a b xs ys) ⟨t1, t2, ?_⟩
  have y1 : (ztH1 s.heap a).objs.size = s.heap.objs.size + 1 := Heap.size_push ..
  have y2 : (ztH2 s.heap a b).objs.size = s.heap.objs.size + 2 := by rw [Heap.size_push, y1]
  have y3 : (ztH3 s.heap a b).objs.size = s.heap.objs.size + 3 := by rw [Heap.size_push, y2]
  have y4 : (ztH4 s.heap a b).objs.size = s.heap.objs.size + 4 := by rw [Heap.size_push, y3]
  have r5 : (ztH5 s.heap a b).get? (ztH4 s.heap a b).objs.size = some _ := Heap.get?_push_size _ rfl
  have r4 : (ztH5 s.heap a b).get? (ztH3 s.heap a b).objs.size = some _ := Heap.get?_push_of_some _ (Heap.get?_push_size _ rfl)
  have r3 : (ztH5 s.heap a b).get? (ztH2 s.heap a b).objs.size = some _ := Heap.get?_push_of_some _ (Heap.get?_push_of_some _ (Heap.get?_push_size _ rfl))
  have r2 : (ztH5 s.heap a b).get? (ztH1 s.heap a).objs.size = some _ := Heap.get?_push_of_some _ (Heap.get?_push_of_some _ (Heap.get?_push_of_some _ (Heap.get?_push_size _ rfl)))
  have r1 : (ztH5 s.heap a b).get? s.heap.objs.size = some _ := Heap.get?_push_of_some _ (Heap.get?_push_of_some _ (Heap.get?_push_of_some _ (Heap.get?_push_of_some _ (Heap.get?_push_size _ rfl))))
  show _ ∧ _
  rw [y2, y3, y4] at r5
  rw [y1, y2] at r3
  rw [y3] at r4
  rw [y1] at r2
  rw [y4]
  exact ⟨⟨_, r5, rfl⟩, q _ r5 r3 r4 ⟨_, r1, rfl, rfl⟩ ⟨_, r2, rfl, rfl⟩ fun c o e => Heap.get?_push_of_some _ (Heap.get?_push_of_some _ (Heap.get?_push_of_some _ (Heap.get?_push_of_some _ (Heap.get?_push_of_some _ e))))⟩
end
noncomputable def Itw (K : PySem.W.Frag) (a b : Addr) : It :=
  ⟨fun i H => ∃ xs ys x y, SqT K H a xs ∧ SqL K H b ys ∧ xs[i]? = some x ∧ ys[i]? = some y,
   fun i H v H' => ∃ T x y, H T = none ∧ v = .ref T ∧ (∀ xs, SqT K H a xs → xs[i]? = some x) ∧ (∀ ys, SqL K H b ys → ys[i]? = some y) ∧ H' = upd H T (.tup [x, y]),
   fun i H => ∃ xs, SqT K H a xs ∧ i = xs.length⟩
noncomputable abbrev ztSt (z TI TO i1 i2 l1 l2 : Addr) (i : Nat) (h : Heap) : Prop := IsZip h z TI TO .none ∧ IsPair h TI (.ref i1) (.ref i2) ∧ (∃ a b, IsPair h TO a b) ∧ h.IsTupleIter i1 l1 i ∧ h.IsListIter i2 l2 i
theorem turn_zt {P : Program} {w : World} {K : PySem.W.Frag} {elts : List Expr} {k : Nat} {pos : Pos} {z TI TO i1 i2 l1 l2 : Addr} (D : ZipApart z TI TO i1 i2 l1 l2) : Turn P w K (.Tuple elts k pos) (Itw K l1 l2) [z, TI, TO, i1, i2] z (ztSt z TI TO i1 i2 l1 l2) where
  mem := by simp
  obj := fun i h st b hb => by
    obtain ⟨hz, hTI, ⟨a, c, hTO⟩, ⟨o1, e1, c1, d1⟩, ⟨o2, e2, c2, d2⟩⟩ := st
    simp at hb
    rcases hb with rfl | rfl | rfl | rfl | rfl
    · exact ⟨_, hz, fun v q => nomatch q⟩
    · exact ⟨_, hTI, fun v q => nomatch q⟩
    · exact ⟨_, hTO, fun v q => nomatch q⟩
    · exact ⟨_, e1, fun v q => by rw [d1] at q; cases q⟩
    · exact ⟨_, e2, fun v q => by rw [d2] at q; cases q⟩
  keep := fun i h h' st kk => by
    obtain ⟨hz, hTI, ⟨a, c, hTO⟩, ⟨o1, e1, r1⟩, h2⟩ := st
    exact ⟨kk z (by simp) _ hz, kk TI (by simp) _ hTI, ⟨a, c, kk TO (by simp) _ hTO⟩, ⟨o1, kk i1 (by simp) o1 e1, r1⟩, h2.at fun o e => kk i2 (by simp) o e⟩
  item := by
    intro X hP hw hK hc i pins s σ H E I hf st hg
    subst hP hw hK
    obtain ⟨xs, ys, x, y, hx, hy, ex, ey⟩ := hg
    obtain ⟨its1, rv1, p1, z1⟩ := I.tuple hx
    obtain ⟨its2, rv2, p2, z2⟩ := I.list hy
    obtain ⟨u1, eu1, ru1⟩ := rv1.get ex
    obtain ⟨u2, eu2, ru2⟩ := rv2.get ey
    obtain ⟨hz, hTI, ⟨ta, tb, hTO⟩, h1, h2⟩ := st
    refine zt_next D hz hTI hTO h1 h2 (show s.heap.IsTuple l1 its1.toArray from p1) p2.isList (by simpa using eu1) (by simpa using eu2) fun h' c1 c2 c3 c4 c5 c6 => ?_
    refine ⟨.ref s.heap.objs.size, rfl, ?_⟩
    refine wpAny_letOwnedTupleGo_zip c1 fun h'' c7 c8 => ?_
    have zlt : z < s.heap.objs.size := Heap.lt_size hz
    have nT : H s.heap.objs.size = none := I.hok.fresh (Nat.le_refl _)
    have eT2 : IsPair h'' s.heap.objs.size u1 u2 := c8.extBut _ _ (Nat.ne_of_gt zlt) c5
    have kp : ∀ b o, b ∉ [z, TO, i1, i2] → s.heap.get? b = some o → h''.get? b = some o := fun b o hb e => by
      simp at hb
      exact c8.extBut _ _ hb.1 (c6 b o hb.1 hb.2.1 hb.2.2.1 hb.2.2.2 e)
    have ok : ObjOk X.prog X.w (upd H s.heap.objs.size (.tup [x, y])) h'' s.heap.objs.size (.tup [x, y]) := ⟨by show 2 ≤ sizeLine; decide, [u1, u2], .cons ru1 (.cons ru2 .nil), _, eT2, rfl, 0, rfl⟩
    have I2 : Inv X pins σ (upd H s.heap.objs.size (.tup [x, y])) { s with heap := h'', toks := s.toks } := I.turnedNew (ch := [z, TO, i1, i2]) (fun b hb => hf b (by simp at hb ⊢; rcases hb with rfl | rfl | rfl | rfl <;> simp)) kp (Nat.le_refl _) ok
    have i1' : h''.IsTupleIter i1 l1 (i + 1) := c3.extBut c8.extBut D.i1z
    refine ⟨.ref s.heap.objs.size, upd H s.heap.objs.size (.tup [x, y]), I2, rfl, ⟨s.heap.objs.size, x, y, nT, rfl, fun vs hv => by rw [I.tuple_inj hv hx]; exact ex, fun vs hv => by rw [I.list_inj hv hy]; exact ey, rfl⟩,
      ⟨c7, ?_, ⟨u1, u2, c8.extBut _ _ D.TOz c2⟩, i1', c4.extBut c8.extBut D.i2z⟩, fun b hb => ?_⟩
    · exact c8.extBut _ _ D.TIz (c6 TI _ D.TIz D.TITO D.TIi1 D.TIi2 hTI)
    · rw [upd_ne ?_]
      · exact (hf b hb).1
      · intro zz
        obtain ⟨o1, e1, _⟩ := h1
        obtain ⟨o2, e2, _⟩ := h2
        have hob : ∃ o, s.heap.get? b = some o := by
          simp at hb
          rcases hb with rfl | rfl | rfl | rfl | rfl
          · exact ⟨_, hz⟩
          · exact ⟨_, hTI⟩
          · exact ⟨_, hTO⟩
          · exact ⟨_, e1⟩
          · exact ⟨_, e2⟩
        obtain ⟨o, eo⟩ := hob
        exact absurd (zz ▸ Heap.lt_size eo) (Nat.lt_irrefl _)
  done := by
    intro X hP hw hK hc i pins s σ H E I hf st hg
    subst hP hw hK
    obtain ⟨xs, hx, ei⟩ := hg
    obtain ⟨its1, rv1, p1, z1⟩ := I.tuple hx
    obtain ⟨hz, hTI, ⟨ta, tb, hTO⟩, h1, h2⟩ := st
    have ln := rv1.length
    refine zt_stop (n := 0) (I.ok.hd hc) D hz hTI hTO h1 (show s.heap.IsTuple l1 its1.toArray from p1) (by simp; omega) fun h' kp => ⟨rfl, ?_⟩
    refine I.turnedL (t' := s.toks) (ch := [z, TO, i1, i2]) (fun b hb => hf b (by simp at hb ⊢; rcases hb with rfl | rfl | rfl | rfl <;> simp)) fun b o hb e => ?_
    simp at hb
    exact kp b o hb.1 hb.2.1 hb.2.2.1 hb.2.2.2 e
  self := fun _ _ _ _ _ st h => wpAny_pyIter_zip st.1 h
noncomputable def iZipT (K : PySem.W.Frag) (ta : TA) : TI := fun σ H R => ta σ H fun vs H1 => ∃ a b : Addr, vs = [.ref a, .ref b] ∧ (∃ xs, SqT K H1 a xs) ∧ (∃ ys, SqL K H1 b ys) ∧ R (Itw K a b) H1
theorem pi_zipT {X : Cx} {elts : List Expr} {k : Nat} {tpos : Pos} {a b : Expr} {ta : TA} {p pos : Pos} (hg : Gl X "zip") (hm : X.mg "zip" = none) (ha : PA X [a, b] ta) (hs : starEach [a, b] X.env = [(false, eval a X.env), (false, eval b X.env)] := by rfl) (hs2 : starEach [b] X.env = [(false, eval b X.env)] := by rfl) :
    PI X (.Tuple elts k tpos) (.Call (.Name "zip" p) [a, b] [] pos) (iZipT X.K ta) := by
  intro pins s σ H R I h
  refine Call_ (ld_blt I hg hm (show bootBuiltins "zip" = some (.type "zip") by decide +kernel) (PyProof.Rows.callWith_type1 (thn (ha pos pins s σ H _ I h) fun us s1 ⟨vs, H1, I1, r1, q1⟩ => ?_) (by rw [hs, hs2]) (by rw [hs2]; rfl)))
  obtain ⟨l1, l2, e, ⟨xs, hx⟩, ⟨ys, hy⟩, q⟩ := q1
  subst e
  cases r1 with
  | cons r rr =>
    cases rr with
    | cons r' rr =>
      cases rr
      cases (show _ = Value.ref l1 from r)
      cases (show _ = Value.ref l2 from r')
      obtain ⟨its1, rv1, p1, z1⟩ := I1.tuple hx
      obtain ⟨its2, rv2, p2, z2⟩ := I1.list hy
      have hlt1 : l1 < s1.heap.objs.size := by
        obtain ⟨o1, e1, _⟩ := id (show s1.heap.IsTuple l1 its1.toArray from p1)
        exact Heap.lt_size e1
      have hlt2 : l2 < s1.heap.objs.size := by
        obtain ⟨o2, n2, e2, _⟩ := p2
        exact Heap.lt_size e2
      refine call_zt (show s1.heap.IsTuple l1 its1.toArray from p1) p2.isList fun h' c1 c2 c3 c4 c5 hk => ?_
      refine wpAny_pyIter_zip c1 ?_
      refine ⟨s1.heap.objs.size + 4, [s1.heap.objs.size + 4, s1.heap.objs.size + 2, s1.heap.objs.size + 3, s1.heap.objs.size, s1.heap.objs.size + 1], _, _, H1, rfl, I1.kept (t' := s1.toks) hk, turn_zt (PySem.W.ktu_apart _ _ _ hlt1 hlt2), ⟨c1, c2, ⟨_, _, c3⟩, c4, c5⟩, fun b hb => ?_, q⟩
      have hb' : s1.heap.objs.size ≤ b := by
        simp at hb
        rcases hb with rfl | rfl | rfl | rfl | rfl <;> first | exact Nat.le_refl _ | exact Nat.le_add_right _ _
      exact I1.fpOk hb' (I1.hok.fresh hb')
theorem comp_zt {K : PySem.W.Frag} {a b : Addr} {xs ws : List V} {c : TC} {tif : TT} {te : TE} {σ : St} {Q : VK} {acc : Addr} {H0 : Hp} (Pv : Nat → List V → Hp → Prop) (h0 : Pv 0 [] H0) (hl : ∀ i ys H, i ≤ xs.length → Pv i ys H → SqT K H a xs ∧ SqL K H b ws) (hxw : xs.length = ws.length)
    (hs : ∀ i x y T ys H, i < xs.length → xs[i]? = some x → ws[i]? = some y → Pv i ys H → H T = none → c (.ref T) (upd H T (.tup [x, y])) fun vs => tif (σ ++ vs.map some) (upd H T (.tup [x, y])) fun b H3 => if b = true then te (σ ++ vs.map some) H3 fun v H4 => H4 acc = some (.lst ys) ∧ ys.length < sizeLine ∧ ∃ m', m' < xs.length - i ∧ m' = xs.length - (i + 1) ∧ i + 1 ≤ xs.length ∧ Pv (i + 1) (ys ++ [v]) (upd H4 acc (.lst (ys ++ [v])))
      else ∃ m', m' < xs.length - i ∧ m' = xs.length - (i + 1) ∧ i + 1 ≤ xs.length ∧ Pv (i + 1) ys H3) (hd : ∀ ys H, Pv xs.length ys H → Q (.ref acc) H) :
    CompR (Itw K a b) c tif te σ Q acc H0 := by
  refine ⟨fun i m ys H => m = xs.length - i ∧ i ≤ xs.length ∧ Pv i ys H, ⟨xs.length, by simp, Nat.zero_le _, h0⟩, ?_⟩
  rintro i m ys H ⟨rfl, hi, p⟩
  obtain ⟨q1, q2⟩ := hl i ys H hi p
  by_cases hlt : i < xs.length
  · have hlt2 : i < ws.length := by omega
    refine .inr ⟨⟨xs, ws, xs[i], ws[i], q1, q2, by simp [hlt], by simp [hlt2]⟩, fun v H' y => ?_⟩
    obtain ⟨T, x, y, nT, rfl, hx, hy, rfl⟩ := y
    exact hs i x y T ys H hlt (hx xs q1) (hy ws q2) p nT
  · have e : i = xs.length := by omega
    subst e
    exact .inl ⟨⟨xs, q1, rfl⟩, hd ys H p⟩
theorem pe_globS {X : Cx} {x : Str} {z : Str} {pos : Pos} (hg : Gl X x) (hm : ∃ t, X.mg x = some (.str z t)) (hd : (x == ("__debug__" : Str)) = false := by decide) : PE X (.Name x pos) (tC (.str z)) := by
  obtain ⟨t, hm⟩ := hm
  exact pe_glob hg hm ⟨t, rfl⟩ hd
end L2

set_option Elab.async false
set_option linter.all false
set_option maxRecDepth 100000
set_option maxHeartbeats 4000000
namespace L2
open PySem PySem.Spec PySem.Calls PyProof.Rows PySem.W Builtin Builtin.ObjectAttr
/-! ### an error class with an __init__ of its own -/
noncomputable abbrev exT (rest : List Value) : Obj := { cls := .type "tuple", data := .seq rest.toArray }
noncomputable abbrev exN (C t : Addr) (dd : Option Addr) : Obj := { cls := .ref C, dict := dd, data := .fields #[.ref t, .none, .none, .none, .bool false, .none] }
section
variable {prog : Program} {w : World} {A : Around} {E : Value → Shared → Prop} {h : Heap} {g : Array GenState} {d : Drawn} {t : Nat} {os : OsState} {K : Frag}
variable {nm q : Str} {C N f : Addr} {bs bm bmB : List Value} {hdct : Bool} {sn : List Str} {sub : List Value} {ab : Bool} {col : Option Bool} {dd : Option Addr} {k0 k1 k2 k3 k5 : Option Value} {B newId initId : String}
theorem typeCall_init (F : ExcBaseFacts B newId initId bmB) (T : OwnTail h bmB bm) (X : K.In h) {rest : List Value} {Q : Fin → Shared → Prop}
    (hC : h.get? C = some (excClassObj nm q C N bs bm hdct sn sub ab col dd k0 k1 k2 k3 k5 newId)) (hi : findIn K (.ref C) "__init__" = some (some (.ref f))) (hf : typeIn K (.ref f) = some (.type "function")) (hz : rest.length ≤ sizeLine)
    (hq : wpAny (model prog w) A (call (.ref f) (.ref (h.objs.size + 1) :: rest)) (fun r s' => r = .none ∧ Q (.done (.ret (.ref (h.objs.size + 1)))) s') E ⟨(h.push (exT rest)).push (exN C h.objs.size none), g, d, t, os⟩) :
    wpAny (model prog w) A (Builtin.«type.__call__» ⟨.ref C :: rest, []⟩) Q E ⟨h, g, d, t, os⟩ := by
  repeat first
    | with_reducible refine wpAny_loadPart_at hC ?_
    | with_reducible refine wpAny_madeBy_exc hC ?_
    | wp_step
  have kp : ∀ b o, h.get? b = some o → ((h.push (exT rest)).push (exN C h.objs.size none)).get? b = some o := fun b o e => Heap.get?_push_of_some _ (Heap.get?_push_of_some _ e)
  have hC1 := kp _ _ hC
  have X1 : K.In ((h.push (exT rest)).push (exN C h.objs.size none)) := fun a o e => kp _ _ (X a o e)
  have hget : ((h.push (exT rest)).push (exN C h.objs.size none)).get? (h.objs.size + 1) = some (exN C h.objs.size none) := by
    have := Heap.get?_push_size (h.push (exT rest)) (o := exN C h.objs.size none) rfl
    rwa [Heap.size_push] at this
  have hcC : (Value.ref C :: bm).contains (.ref C) = true := by simp
  refine codeAny_call_builtin_code (Code.quiet_builtin _ F.quiet) (wpAny_check_new_subT F T hC ?_)
  refine codeAny_exc_new_subT F T hC ?_ hz
  show wpAny _ _ _ _ _ _
  unfold isInstance
  repeat first
    | with_reducible refine wpAny_loadPart_at hget ?_
    | (with_reducible refine wpAny_isSubtype_exc hC1 ?_; rw [hcC])
    | wp_step
  show wpAny _ _ (typeLookup (.ref C) _) _ _ _
  refine (looks_findIn X1 hi).here ?_
  refine wpAny_holding (wpAny_bind ((bind_fn X1 _ hf).here ?_))
  refine wpAny_bind (wpAny_mono hq (fun r s' hr => ?_) fun _ _ x => x)
  obtain ⟨rfl, hQ⟩ := hr
  wp_walk
  exact hQ
theorem call_init (F : ExcBaseFacts B newId initId bmB) (T : OwnTail h bmB bm) (X : K.In h) {rest : List Value} {Q : Value → Shared → Prop}
    (hC : h.get? C = some (excClassObj nm q C N bs bm hdct sn sub ab col dd k0 k1 k2 k3 k5 newId)) (hi : findIn K (.ref C) "__init__" = some (some (.ref f))) (hf : typeIn K (.ref f) = some (.type "function")) (hz : rest.length ≤ sizeLine)
    (hq : wpAny (model prog w) (A.under (.builtin "type.__call__" ⟨.ref C :: rest, []⟩)) (call (.ref f) (.ref (h.objs.size + 1) :: rest)) (fun r s' => r = .none ∧ Q (.ref (h.objs.size + 1)) s') E ⟨(h.push (exT rest)).push (exN C h.objs.size none), g, d, t, os⟩) :
    wpAny (model prog w) A (call (.ref C) rest) Q E ⟨h, g, d, t, os⟩ := by
  have z1 := tc_lookup
  have z2 := tc_bind (.ref C)
  have hT : (⟨h, g, d, t, os⟩ : Shared).TypeIs (.ref C) "type" := ⟨_, hC, rfl⟩
  refine wpAny_call (codeAny_of_tree ?_)
  show wpAny _ _ (callAny (.ref C) _) _ _ _
  repeat any_goals first
    | assumption
    | with_reducible refine wpAny_loadPart_at hC ?_
    | wp_step
  refine ⟨rfl, codeAny_call_builtin_at (Code.quiet_builtin _ (by decide +kernel)) entry_typeCall (wpAny_check_type_call_sub hC (typeCall_init F T X hC hi hf hz ?_))⟩
  exact hq
theorem raise_made {M : Model} {env : Env} {s : Shared} {x : Sem Value} {Q : Flow → Shared → Prop} (hh : A.handled = none)
    (hx : wpAny M A x (fun v s₁ => ∃ e t C dx, v = .ref e ∧ (∃ nm qn N bs bm hdct sn sub ab col dd k0 k1 k2 k3 k5 newId, s₁.heap.get? C = some (excClassObj nm qn C N bs bm hdct sn sub ab col dd k0 k1 k2 k3 k5 newId) ∧ bm.contains (.type "BaseException") = true) ∧ s₁.heap.get? e = some (exN C t dx) ∧ E (.ref e) s₁) E s) :
    wpAny M A (raiseStmt env (some x) none) Q E s := by
  unfold raiseStmt
  refine wpAny_bind (wpAny_mono hx (fun v s₁ h₁ => ?_) fun _ _ x => x)
  obtain ⟨e, t, C, dx, rfl, ⟨nm, qn, N, bs, bm, hdct, sn, sub, ab, col, dd, k0, k1, k2, k3, k5, newId, hC, hbase⟩, he, hE⟩ := h₁
  have hcB : (Value.ref C :: bm).contains (.type "BaseException") = true := by rw [List.contains_cons, hbase, Bool.or_true]
  obtain ⟨hp, g, d, tk, os⟩ := s₁
  repeat first
    | with_reducible refine wpAny_loadPart_at he ?_
    | with_reducible refine wpAny_loadPart_at hC ?_
    | (with_reducible refine wpAny_isSubtype_exc hC ?_; rw [hcB])
    | wp_step
  exact wpAny_raiseNew_none hh hE
end
end L2

set_option Elab.async false
set_option linter.all false
set_option maxRecDepth 100000
set_option maxHeartbeats 4000000
namespace L2
open PySem PySem.Spec PySem.Calls PyProof.Rows PySem.W Builtin Builtin.ObjectAttr
noncomputable def excS (K : Frag) (C : Addr) : Bool := match clsIn K C with
  | some cd => cd.hasDict && (match cd.mro with
    | .ref _ :: .ref _ :: r => r == bmV
    | _ => false)
  | none => false
noncomputable def ExcAt (C : Addr) (h : Heap) : Prop := ∃ (bm : List Value) (N : Addr) (nm qn : Str) (bs : List Value) (hd : Bool) (sn : List Str) (sub : List Value) (ab : Bool) (col : Option Bool) (dd : Option Addr) (k0 k1 k2 k3 k5 : Option Value),
  h.get? C = some (excClassObj nm qn C N bs bm hd sn sub ab col dd k0 k1 k2 k3 k5 "ValueError.__new__") ∧ OwnTail h bmV bm
structure ExcI (K : Frag) (C f : Addr) : Prop where
  x : ∀ {h : Heap}, K.In h → ExcAt C h
  hi : findIn K (.ref C) "__init__" = some (some (.ref f))
  hf : typeIn K (.ref f) = some (.type "function")
  kp : keepIn K (.ref C) = true
structure ExcA (K : Frag) (C : Addr) : Prop where
  sa : findIn K (.ref C) "__setattr__" = some (some (.builtin "object.__setattr__"))
  s : excS K C = true
theorem tail_of_exc {K : Frag} {B D : Addr} {od : Option Addr} {cd : ClassData} {sl : Array (Option Value)} (x : ExcV K B) (lk : K.lookup B = some ⟨.type "type", od, .cls cd, sl⟩) (hm : cd.mro = .ref B :: .ref D :: bmV) {h : Heap} (X : K.In h) : OwnTail h bmV (.ref D :: bmV) := by
  obtain ⟨bm, N, nm, qn, bs, hd, sn, sub, ab, col, dd, k0, k1, k2, k3, k5, mN, hC, _, _, T⟩ := exc_obj X x
  have e := (X _ _ lk).symm.trans hC
  injection e with e
  injection e with e1 e2 e3 e4
  injection e3 with e3
  subst e3
  have hm : Value.ref B :: bm = .ref B :: .ref D :: bmV := hm
  injection hm with _ hm
  rw [← hm]
  exact T
theorem excI_of {K : Frag} {C D : Addr} {od : Option Addr} {cd : ClassData} {sl : Array (Option Value)} {k0 k1 k2 k3 k5 : Option Value} (lk : K.lookup C = some ⟨.type "type", od, .cls cd, sl⟩) (hm : cd.mro = .ref C :: .ref D :: bmV)
    (hs : sl = #[k0, k1, k2, k3, some (.builtin "ValueError.__new__"), k5]) (hdel : cd.hasDel = false) {h : Heap} (X : K.In h) (T : OwnTail h bmV (.ref D :: bmV)) : ExcAt C h := by
  obtain ⟨nm, bs, mro, ns, qn, hd, sn, sub, ab, col, del⟩ := cd
  dsimp only at hm hdel
  subst hm hdel hs
  exact ⟨.ref D :: bmV, ns, nm, qn, bs, hd, sn, sub, ab, col, od, k0, k1, k2, k3, k5, X _ _ lk, T⟩
theorem excS_of {K : Frag} {C D : Addr} {od : Option Addr} {cd : ClassData} {sl : Array (Option Value)} (lk : K.lookup C = some ⟨.type "type", od, .cls cd, sl⟩) (hm : cd.mro = .ref C :: .ref D :: bmV) (hd : cd.hasDict = true) : excS K C = true := by
  unfold excS clsIn
  rw [lk]
  dsimp only
  rw [hd, hm]
  show (true && (bmV == bmV)) = true
  rw [Bool.true_and, beq_self_eq_true]
section
variable {prog : Program} {w : World} {A : Around} {E : Value → Shared → Prop} {s : Shared} {K : Frag} {x C t : Addr} {name : Str} {v : Value}
theorem exc_osa {tk : Tok} {R : Result → Shared → Prop} (X : K.In s.heap) (hx : s.heap.get? x = some (exN C t none)) (c : ExcA K C) (n : NoAttr K C name)
    (h : ∀ h', h'.get? x = some (exN C t (some s.heap.objs.size)) → h'.Ns1 s.heap.objs.size (fun y => if y = name then some v else none) → (∀ b o, b ≠ x → s.heap.get? b = some o → h'.get? b = some o) → R (.ok (.ret .none)) { s with heap := h', toks := s.toks + 1 }) :
    codeAny (model prog w) A (.call (.builtin "object.__setattr__") ⟨[.ref x, .str name tk, v], []⟩) R s := by
  have J : PySem.W.InstAt s.heap x (exN C t none) C none := ⟨hx, rfl, rfl, True.intro⟩
  have cs := c.s
  unfold excS at cs
  split at cs
  case h_2 => cases cs
  rename_i cd hc
  obtain ⟨hd, hm⟩ := Bool.and_eq_true_iff.mp cs
  split at hm
  case h_2 => cases hm
  rename_i C1 C2 r em
  have er : r = bmV := by simpa using hm
  subst er
  have SF := PySem.F.store_ValueError
  have ms : Looks (model prog w) s.heap (mroOf (.ref C)) cd.mro := (looks_clsIn X hc).andThen .now
  have mo : mroIn K C (.type "object") = some true := by unfold mroIn; rw [hc, Option.bind_some, em]; rfl
  have sub : Looks (model prog w) s.heap (isInstance (.ref x) (.type "object")) true := J.type.andThen (looks_mroIn X mo)
  refine codeAny_call_builtin SF.slot.plain SF.entry (@check_slot (model prog w) _ _ s "object.__setattr__" "object" "__setattr__" (.ref x) [.str name tk, v] [] _ SF.kind SF.split sub (SF.args (.ref x) (.str name tk) v) ?_)
  rw [osa_eq, refuse_eq]
  refine wpAny_bind (wpAny_bind (J.type.here (wpAny_bind (ms.here ?_))))
  rw [em, refuseLoop_ref, refuseLoop_ref, SF.passes]
  refine wpAny_pure (wpAny_bind (J.type.here (wpAny_bind ((looks_findIn X n).here (wpAny_bind (wpAny_pure ?_))))))
  show wpAny _ _ (storeInOwnDict (.ref x) (.ref C) (.str name tk) name v _) _ _ _
  refine wpAny_bind (wpAny_pure (wpAny_bind (wpAny_bind (wpAny_loadPart hx (wpAny_bind (PySem.W.Looks.here (PySem.W.looks_clsIn X hc) ?_))))))
  rw [hd]
  have xs : x ≠ s.heap.objs.size := Nat.ne_of_lt (Heap.lt_size hx)
  have h1 : (s.heap.push emptyDict).get? x = some (exN C t none) := Heap.get?_push_of_some _ hx
  show wpAny _ _ (PySem.alloc emptyDict >>= fun d => update x (fun o => { cls := o.cls, dict := some d, data := o.data, slots := o.slots }) >>= fun _ => dictMade (.ref C) x d) _ _ _
  refine wpAny_bind (wpAny_alloc' (wpAny_bind (wpAny_update' h1 (wpAny_pure ?_))))
  have gd : ((s.heap.push emptyDict).update x fun o => { cls := o.cls, dict := some s.heap.objs.size, data := o.data, slots := o.slots }).get? s.heap.objs.size = some emptyDict :=
    (Heap.get?_update_ne _ _ _ _ xs.symm).trans (Heap.get?_push_at rfl rfl)
  have nd : ((s.heap.push emptyDict).update x fun o => { cls := o.cls, dict := some s.heap.objs.size, data := o.data, slots := o.slots }).Ns s.heap.objs.size (fun _ => none) := ⟨_, #[], _, gd, rfl, fun e he => absurd he (by simp), fun _ => rfl⟩
  show wpAny _ _ (storeInDict s.heap.objs.size (.str name tk) name v) _ _ _
  unfold storeInDict newKeyGuard
  refine wpAny_bind (wpAny_pure (wpAny_bind (wpAny_nsSet1 (Heap.Ns1.of_empty nd) fun h' hn' hs => ?_)))
  obtain ⟨oD, esD, epD, hoD, hdD, hcD⟩ := hn'.count (Within.cons name v Within.nil)
  refine wpAny_bind (wpAny_lookBehind hoD (by rw [hdD]; exact pastItsLine_dict (Nat.le_trans hcD (show 1 ≤ sizeLine + 1 by rw [sizeLine_eq]; decide))) (wpAny_pure (h h' ?_ hn' fun b o hb e => ?_)))
  · exact (hs.2 x xs).trans (Heap.get?_update_self _ h1 rfl)
  · exact (hs.2 b (Nat.ne_of_lt (Heap.lt_size e))).trans ((Heap.get?_update_ne _ _ _ _ hb).trans (Heap.get?_push_of_some _ e))
theorem exc_set {Q : Unit → Shared → Prop} (X : K.In s.heap) (hx : s.heap.get? x = some (exN C t none)) (c : ExcA K C) (n : NoAttr K C name)
    (h : ∀ h', h'.get? x = some (exN C t (some s.heap.objs.size)) → h'.Ns1 s.heap.objs.size (fun y => if y = name then some v else none) → (∀ b o, b ≠ x → s.heap.get? b = some o → h'.get? b = some o) → Q () { s with heap := h', toks := s.toks + 2 }) :
    wpAny (model prog w) A (setAttr (.ref x) name v) Q E s := by
  have J : PySem.W.InstAt s.heap x (exN C t none) C none := ⟨hx, rfl, rfl, True.intro⟩
  exact set_plain X J c.sa (exc_osa (s := { s with toks := s.toks + 1 }) X hx c n fun h' a b k => h h' a b k)
end
end L2

set_option Elab.async false
set_option linter.all false
set_option maxRecDepth 100000
set_option maxHeartbeats 4000000
namespace L2
open PySem PySem.Spec PySem.Calls PyProof.Rows PySem.W Builtin Builtin.ObjectAttr
noncomputable def exZ (ea C t : Addr) (dd : Option Addr) : HO := .ext fun h => h.get? ea = some (exN C t dd)
theorem exZ_ok {P : Program} {w : World} {H : Hp} {h : Heap} {ea C t : Addr} {dd : Option Addr} (e : h.get? ea = some (exN C t dd)) : ObjOk P w H h ea (exZ ea C t dd) := ⟨e, ⟨_, e⟩, fun _ _ e1 k => k _ e1⟩
noncomputable def tMakeE (C : Addr) (sp : Sp) (t : TA) : TE := fun σ H Q => t σ H fun vs H1 => vs.length ≤ sizeLine ∧ ∀ x tt, H1 x = none → sp (.ref x :: (vs ++ [])) (upd H1 x (exZ x C tt none)) (fun v H2 => v = .non ∧ Q (.ref x) H2) E0
theorem pe_makeE {X : Cx} {k : Nat} {f C : Addr} {fd : FuncData} {ps : List Str} {sp : Sp} {x : Str} {p pos : Pos} {e : Expr} {es : List Expr} {t : TA} (M : ExcI X.K C f) (F : FnOk X.prog X.w X.K X.mg X.base CX0 k f fd ps sp) (hr : Room (k + 1) X.A)
    (hg : Gl X x) (hm : X.mg x = some (.ref C)) (hb : Binds X.K fd ps []) (ha : PA X (e :: es) t) (hdb : (x == ("__debug__" : Str)) = false := by decide)
    (he : starEach (e :: es) X.env = (false, eval e X.env) :: starEach es X.env := by rfl) (hpl : (backTo pos (starEach es X.env)).any (·.1) = false := by rfl) : PE X (.Call (.Name x p) (e :: es) [] pos) (tMakeE C sp t) := by
  intro pins s σ H Q I h
  refine wpAny_Call_Name_kw (ld_glob I hg hm ?_ hdb)
  refine PySem.W.callWith_K (h₀ := X.base) I.ok.mod.kin M.kp (thn (ha pos pins s σ H _ I h) fun us s1 ⟨vs, H1, I1, r, hz, q⟩ => ⟨I1.kIn, ?_⟩) he hpl
  obtain ⟨bm, N, nm, qn, bs, hd, sn, sub, ab, col, dd, k0, k1, k2, k3, k5, hC, T⟩ := M.x I1.kIn
  have hq := q (s1.heap.objs.size + 1) s1.heap.objs.size (I1.hok.fresh (Nat.le_succ _))
  have hget : ((s1.heap.push (exT us)).push (exN C s1.heap.objs.size none)).get? (s1.heap.objs.size + 1) = some (exN C s1.heap.objs.size none) := by
    have := Heap.get?_push_size (s1.heap.push (exT us)) (o := exN C s1.heap.objs.size none) rfl
    rwa [Heap.size_push] at this
  have I2 := I1.laid (a := s1.heap.objs.size + 1) (o := exZ (s1.heap.objs.size + 1) C s1.heap.objs.size none) (h' := (s1.heap.push (exT us)).push (exN C s1.heap.objs.size none)) (t' := s1.toks)
    (fun b u z => Heap.get?_push_of_some _ (Heap.get?_push_of_some _ z)) (Nat.le_succ _) (exZ_ok hget)
  have r2 : Vals (V.ref (s1.heap.objs.size + 1) :: (vs ++ [])) (Value.ref (s1.heap.objs.size + 1) :: (us ++ [])) := .cons rfl (r.append .nil)
  have hl : (Value.ref (s1.heap.objs.size + 1) :: us ++ []).length = ps.length := by
    have z := r2.length
    rw [F.len _ _ _ _ hq] at z
    exact z.symm
  have hB := hb _ (Value.ref (s1.heap.objs.size + 1) :: us) I2.kIn hl
  rw [List.cons_append] at hB
  show wpAny _ _ (call (.ref C) us) _ _ _
  refine call_init (d := s1.drawn) PySem.F.excBase_ValueError T I1.kIn hC M.hi M.hf (by rw [← r.length]; exact hz) ?_
  refine wpAny_call (codeAny_mono (F.run _ X.stack _ _ ⟨Value.ref (s1.heap.objs.size + 1) :: us, []⟩ (Value.ref (s1.heap.objs.size + 1) :: (us ++ [])) _ _ E0 (hr.make C us []) (I2.env0.make C us []) hB r2 hq) fun rr s' hq' => ?_)
  cases rr with
  | error e => exact False.elim hq'
  | ok fl =>
    cases fl with
    | ret u =>
      obtain ⟨v, H', I3, rv, ev, q3⟩ := I2.after hq'
      subst ev
      exact ⟨rv, ⟨V.ref (s1.heap.objs.size + 1), H', I3, rfl, q3⟩⟩
    | next => exact False.elim hq'
    | brk => exact False.elim hq'
    | cont => exact False.elim hq'
/-! ### a field of it is stored -/
noncomputable def sFldE (K : Frag) (ta tv : TE) (f : Str) : TS := fun D σ H => tv σ H fun y H1 => ta σ H1 fun x H2 => ∃ a C t, x = .ref a ∧ H2 a = some (exZ a C t none) ∧ ExcA K C ∧ NoAttr K C f ∧
  ∀ dd, H2 dd = none → dd ≠ a → D.nx σ (upd (upd H2 dd (.xd [(f, y)])) a (exZ a C t (some dd)))
theorem ps_fldE {X : Cx} {o value : Expr} {f : Str} {pos pos' : Pos} {ta tv : TE} (ha : PE X o ta) (hv : PE X value tv) (hs : swapsWith value (some (.Attribute o f pos')) pos.line X.env = pure false) : PS X (.Assign [.Attribute o f pos'] value pos) (sFldE X.K ta tv f) := by
  intro pins s σ H D I h
  refine plainObj_wpAny_Assign_Attribute (thn (hv pins s σ H _ I h) fun u s1 ⟨y, H1, I1, ry, q⟩ => thn (ha pins s1 σ H1 _ I1 q) fun ov s2 ⟨x, H2, I2, rx, a, C, t, ex, ea, c, n, q2⟩ => ?_) hs
  subst ex
  obtain rfl : ov = Value.ref a := rx
  have he : s2.heap.get? a = some (exN C t none) := (show ObjOk X.prog X.w H2 s2.heap a (exZ a C t none) from I2.hok a _ ea).1
  refine exc_set I2.kIn he c n fun h' k1 k2 k3 => ?_
  have hne : s2.heap.objs.size ≠ a := (Nat.ne_of_lt (Heap.lt_size he)).symm
  have hfr : H2 s2.heap.objs.size = none := I2.hok.fresh (Nat.le_refl _)
  refine ⟨σ, _, ?_, q2 s2.heap.objs.size hfr hne⟩
  obtain ⟨oD, es, ep, hoD, hr⟩ := id k2
  have e1 : (s2.heap.push oD).get? s2.heap.objs.size = some oD := Heap.get?_push_size s2.heap (Heap.get?_some_iff.mp hoD).2
  have J := I2.laid (a := s2.heap.objs.size) (o := .xd [(f, y)]) (h' := s2.heap.push oD) (t' := s2.toks) (fun b z q => Heap.get?_push_of_some _ q) (Nat.le_refl _) ⟨_, ⟨oD, es, ep, e1, hr⟩, fun g => by
    show RelO (List.lookup g [(f, y)]) (if g = f then some u else none)
    by_cases hg : g = f
    · have hb : (g == f) = true := beq_iff_eq.mpr hg
      simp only [List.lookup, hb, if_pos hg]
      exact ry
    · have hb : (g == f) = false := beq_eq_false_iff_ne.mpr hg
      simp only [List.lookup, hb, if_neg hg]
      exact True.intro⟩
  have ea' : (upd H2 s2.heap.objs.size (.xd [(f, y)])) a = some (exZ a C t none) := by rw [upd_ne hne.symm]; exact ea
  refine J.write (x := a) (e := a) (o := exZ a C t (some s2.heap.objs.size)) (h' := h') (t' := s2.toks + 2) (by rw [ea']; exact True.intro) (.inl rfl) (fun b z hb q => ?_) ⟨_, k1⟩ (exZ_ok k1)
  rcases Heap.get?_push_cases q with ⟨rfl, rfl⟩ | q
  · exact hoD
  · exact k3 b z hb q
/-! ### it is raised -/
noncomputable def del (H : Hp) (a : Addr) : Hp := fun b => if b = a then none else H b
theorem del_same {H : Hp} {a : Addr} : del H a a = none := if_pos rfl
theorem del_ne {H : Hp} {a b : Addr} (h : b ≠ a) : del H a b = H b := if_neg h
section
variable {X : Cx} {pins : List (Addr × Obj)} {σ : St} {H : Hp} {s : Shared} {E : XK} {ea C t : Addr} {dd : Option Addr}
theorem Inv.untrack {φ : Heap → Prop} (I : Inv X pins σ H s) (he : H ea = some (.ext φ)) : Inv X pins σ (del H ea) s := by
  have ne : ∀ {b u}, H b = some u → u ≠ .ext φ → b ≠ ea := fun e n z => by rw [z, he] at e; exact n (Option.some.inj e).symm
  have nn : ∀ {b}, H b = none → del H ea b = none := fun {b} e => by
    by_cases z : b = ea
    · rw [z]; exact del_same
    · rw [del_ne z]; exact e
  refine ⟨I.ok, I.os, I.bare, ⟨I.base.keep, I.base.slot, fun b o e n hx => nn (I.base.free b o e n hx), I.base.there, fun b xs e => ?_, fun b o u e => ?_, fun b ps e => ?_⟩, I.loc, I.cell, nn I.free, fun x c e => nn (I.freeC x c e), fun p hp => ?_, fun b u e => ?_, I.len⟩
  · have z := I.base.tups b xs e
    rw [del_ne (ne z (by intro q; cases q))]
    exact z
  · have z := I.base.frzs b o u e
    rw [del_ne (ne z (by intro q; cases q))]
    exact z
  · obtain ⟨more, z⟩ := I.base.tbls b ps e
    exact ⟨more, by rw [del_ne (ne z (by intro q; cases q))]; exact z⟩
  · obtain ⟨e, n, r⟩ := I.pin p hp
    exact ⟨e, nn n, r⟩
  · by_cases hb : b = ea
    · rw [hb, del_same] at e; cases e
    · rw [del_ne hb] at e
      exact (I.hok b u e).stay (fun c v _ q => q) (fun c q => by rw [del_ne (ne q (by intro z; cases z))]; exact q) fun c xs q => by rw [del_ne (ne q (by intro z; cases z))]; exact q
theorem InFl.of_held (own : Own X) (I : Inv X pins σ H s) (he : H ea = some (exZ ea C t dd)) (h0 : X.H₀ ea = none) (hE : E (.ref C) dd (del H ea)) : InFl X pins σ E (.ref ea) s := by
  have ob : s.heap.get? ea = some (exN C t dd) := (show ObjOk X.prog X.w H s.heap ea (exZ ea C t dd) from I.hok ea _ he).1
  have st : (hideAll s.heap (ea :: frs X.stack)).StaysIn s.heap := fun b o q => of_hideAll _ q
  have nk : ∀ {b}, Kept X pins (del H ea) b → b ≠ ea := fun {b} k z => by
    subst z
    rcases k with k | ⟨k1, k2⟩ | ⟨p, hp, z⟩
    · exact k del_same
    · obtain ⟨o, e⟩ := some_of_ne k1
      have := I.base.free b o e h0 (by rw [own.ex]; simp)
      rw [he] at this
      cases this
    · obtain ⟨_, n, _⟩ := I.pin p hp
      rw [z, he] at n
      cases n
  have I' := I.untrack he
  refine ⟨ea, .ref C, .ref t, dd, del H ea, hideAll s.heap (ea :: frs X.stack), rfl, hE, I', ⟨st, hideAll_none _ (List.mem_cons_self ..), ?_, fun b o e k => ?_⟩, .inl ⟨_, _, ob, ⟨rfl, rfl⟩, rfl, rfl, rfl⟩⟩
  · exact funFrames_hide I.stack fun env hv a ha => List.mem_cons_of_mem _ (List.mem_filterMap.mpr ⟨env, hv, ha⟩)
  · obtain ⟨⟨o1, e1⟩, nf⟩ := k.there I' own
    have e : s.heap.get? b = some o := e
    refine hideAll_get _ e fun z => ?_
    rcases List.mem_cons.mp z with z | z
    · exact nk k z
    · exact nf z
end
noncomputable def RaisesV (X : Cx) (E : XK) : Prop := ∀ (pins : List (Addr × Obj)) (σ : St) (H : Hp) (s : Shared) (ea C t : Addr) (dd : Option Addr), Inv X pins σ H s → H ea = some (exZ ea C t dd) → X.H₀ ea = none → E (.ref C) dd (del H ea) → X.xe (.ref ea) s
theorem raisesV_fn {X : Cx} {E : XK} (own : Own X) : RaisesV (X.wish (InFn X E)) E := fun pins σ H s ea C t dd I he h0 hE => ⟨pins, σ, (InFl.of_held (own.wish _) I he h0 hE).unwish⟩
noncomputable def sRaiseV (K : Frag) (H₀ : Hp) (E : XK) (te : TE) : TS := fun _ σ H => te σ H fun x H1 => ∃ a C t dd, x = .ref a ∧ H1 a = some (exZ a C t dd) ∧ H₀ a = none ∧ ktsIn K C "BaseException" = true ∧ E (.ref C) dd (del H1 a)
theorem ps_raiseV {X : Cx} {E : XK} {e : Expr} {te : TE} {pos : Pos} (hR : RaisesV X E) (hc : X.calm = true) (he : PE X e te) : PS X (.Raise (some e) none pos) (sRaiseV X.K X.H₀ E te) := by
  intro pins s σ H D I h
  rw [arm_exec_Raise]
  refine wpAny_bind (wpAny_standAt (raise_made (I.ok.hd hc) (wpAny_bind (wpAny_mono (he pins s σ H _ I h) (fun v s₃ h₃ => wpAny_bind (wpAny_standAt (wpAny_pure ?_))) fun _ _ x => x))))
  obtain ⟨x, H1, I1, rx, a, C, t, dd, rfl, ha, h0, hk, hE⟩ := h₃
  cases (show v = Value.ref a from rx)
  obtain ⟨nm, q, N, bs, bm, hdct, sn, sub, ab, col, dc, k0, k1, k2, k3, k5, newId, hC, hb, _⟩ := kts_cls I1.kIn hk
  exact ⟨a, t, C, dd, rfl, ⟨nm, q, N, bs, bm, hdct, sn, sub, ab, col, dc, k0, k1, k2, k3, k5, newId, hC, hb⟩, (show ObjOk X.prog X.w H1 s₃.heap a (exZ a C t dd) from I1.hok a _ ha).1, hR pins σ H1 s₃ a C t dd I1 ha h0 hE⟩
end L2

set_option Elab.async false
set_option linter.all false
set_option maxRecDepth 100000
set_option maxHeartbeats 4000000
namespace L2
open PySem PySem.Spec PySem.Calls PyProof.Rows PySem.W Builtin Builtin.ObjectAttr
section
variable {prog : Program} {w : World} {A : Around} {E : Value → Shared → Prop} {s : Shared} {K : PySem.W.Frag} {x D : Addr} {ox : Obj} {odo : Option Obj} {name : Str} {v : Value}
theorem bexc_get {ex : Bool} {Q : Value → Shared → Prop} (X : K.In s.heap) (I : PySem.W.InstAt s.heap x ox D odo) (k : ExcK K D) (hf : findObj K D odo name = some (.value v)) (hv : handedIn v = true)
    (h : Q v { s with toks := s.toks + 1 }) : wpAny (model prog w) A (getAttr (.ref x) name ex) Q E s := by
  obtain ⟨hh, gg, d, t, os⟩ := s
  have L0 := I.type (M := model prog w)
  have L1 := looks_findIn (M := model prog w) X k.ga
  have L2 := looks_findIn (M := model prog w) X k.gh
  have LF := looks_find (M := model prog w) X I hf
  unfold getAttr getAttrBy
  refine wpAny_bind (wpAny_mkText (wpAny_holding (wpAny_bind (L0.at (wpAny_bind (L1.at ?_))))))
  show wpAny _ _ (getAttrByItsOwn (.ref x) (.str name t) (.ref D) (.builtin "BaseException.__getattribute__") true ex) _ _ _
  unfold getAttrByItsOwn
  refine wpAny_bind (m := hookBefore (.ref D)) ?_
  show wpAny _ _ (typeLookup (.ref D) "__getattr__") _ _ _
  refine L2.at ?_
  refine wpAny_bind (wpAny_attempt ?_)
  refine wpAny_holding ?_
  have e0 : callGetattribute (.ref x) (.str name t) (.builtin "BaseException.__getattribute__") ex = boundAndCalled (.builtin "BaseException.__getattribute__") (.ref x) (.str name t) := by
    unfold callGetattribute
    rw [show (ex && onTheHeap (.builtin "BaseException.__getattribute__")) = false by cases ex <;> rfl]
    rfl
  rw [e0]
  unfold boundAndCalled
  rw [PySem.F.excAttr_ValueError.ga.bind]
  refine wpAny_bind (wpAny_pure ?_)
  show wpAny _ _ (call (.builtin "BaseException.__getattribute__") [.ref x, .str name t]) _ _ _
  refine wpAny_call (codeAny_call_builtin PySem.F.excAttr_ValueError.ga.plain PySem.F.entry_bexc_ga (bexc_check X I k.be ?_))
  show wpAny _ _ (Builtin.«object.__getattribute__» ⟨[.ref x, .str name t], []⟩) _ _ _
  unfold Builtin.«object.__getattribute__»
  refine wpAny_bind (wpAny_of_eq (show slotArgs "__getattribute__" 1 ⟨[.ref x, .str name t], []⟩ = pure (.ref x, [.str name t]) from rfl) ?_)
  refine wpAny_bind (wpAny_of_eq (show attrName (.str name t) = pure name from rfl) ?_)
  refine wpAny_bind (L0.at (wpAny_bind (LF.at ?_)))
  refine wpAny_pure ?_
  have hh : handedOut v = pure v := by
    cases v <;> first | rfl | (unfold handedIn at hv; unfold handedOut; simp_all)
  show wpAny _ _ (handedOut v) _ _ _
  rw [hh]
  exact wpAny_pure h
end
section
variable {X : Cx} {pins : List (Addr × Obj)} {σ : St} {H : Hp} {s : Shared} {ea D : Addr} {dd : Option Addr}
noncomputable def XdOk (H : Hp) (dd : Option Addr) : Prop := match dd with
  | none => True
  | some d => ∃ fs, H d = some (.xd fs)
theorem ex_inst (I : Inv X pins σ H s) (he : H ea = some (exO ea D dd)) (hd : XdOk H dd) : ∃ o odo, PySem.W.InstAt s.heap ea o D odo := by
  obtain ⟨⟨o, vs, e1, e2, e3, e4⟩, _⟩ := (show ObjOk X.prog X.w H s.heap ea (exO ea D dd) from I.hok ea _ he)
  cases dd with
  | none => exact ⟨o, none, ⟨e1, e2, by unfold notCls; rw [e4], by rw [e3]; trivial⟩⟩
  | some d =>
    obtain ⟨fs, hx⟩ := hd
    obtain ⟨mA, ⟨od, es, ep, ho, _⟩, _⟩ := (show ObjOk X.prog X.w H s.heap d (.xd fs) from I.hok d _ hx)
    exact ⟨o, some od, ⟨e1, e2, by unfold notCls; rw [e4], by rw [e3]; exact ho⟩⟩
theorem call_isX : CallR X (.builtin "isinstance") (fun xs H Q => ∃ (ea D C : Addr) (dd : Option Addr) (b : Bool), xs = [.ref ea, .ref C] ∧ H ea = some (exO ea D dd) ∧ XdOk H dd ∧ ExcK X.K D ∧ kitOne X.K (.ref D) (.ref C) = some b ∧ Q (.bl b) H) := by
  intro pins s σ H xs us Q I r h
  obtain ⟨ea, D, C, dd, b, rfl, he, hd, k, e, q⟩ := h
  obtain ⟨u, w', rfl, rx, rc⟩ := vals2 r
  cases (show w' = Value.ref C from rc)
  cases (show u = Value.ref ea from rx)
  obtain ⟨o, odo, J⟩ := ex_inst I he hd
  exact kia_one (kitx_exc (ox := o) (odo := odo) k) I.kIn J e (fun z => nomatch z) fun tk => ⟨.bl b, H, I.tok tk, rfl, q⟩
theorem call_isXB : CallR X (.builtin "isinstance") (fun xs H Q => ∃ (ea D : Addr) (dd : Option Addr) (c : String) (b : Bool), xs = [.ref ea, .ty c] ∧ H ea = some (exO ea D dd) ∧ XdOk H dd ∧ ExcK X.K D ∧ kitOne X.K (.ref D) (.type c) = some b ∧ Q (.bl b) H) := by
  intro pins s σ H xs us Q I r h
  obtain ⟨ea, D, dd, C, b, rfl, he, hd, k, e, q⟩ := h
  obtain ⟨u, w', rfl, rx, rc⟩ := vals2 r
  cases (show w' = Value.type C from rc)
  cases (show u = Value.ref ea from rx)
  obtain ⟨o, odo, J⟩ := ex_inst I he hd
  exact kia_one (kitx_exc (ox := o) (odo := odo) k) I.kIn J e (fun z => nomatch z) fun tk => ⟨.bl b, H, I.tok tk, rfl, q⟩
noncomputable def tFldX (K : PySem.W.Frag) (ta : TE) (f : Str) : TE := fun σ H Q => ta σ H fun x H1 => ∃ a C d fs v, x = .ref a ∧ H1 a = some (exO a C (some d)) ∧ H1 d = some (.xd fs) ∧ ExcK K C ∧ hasDictIn K C = true ∧ NoAttr K C f ∧ fs.lookup f = some v ∧ Q v H1
theorem pe_fldX {e : Expr} {f : Str} {pos : Pos} {ta : TE} (he : PE X e ta) (hb : attributeBase e f X.env (eval e X.env) = eval e X.env) : PE X (.Attribute e f pos) (tFldX X.K ta f) := by
  intro pins s σ H Q I h
  refine attr_of hb (thn (he pins s σ H _ I h) fun u s1 ⟨x, H1, I1, rx, a, C, d, fs, v, ex, ea, ed, k, hd, n, l, q⟩ => ?_)
  subst ex
  obtain rfl : u = Value.ref a := rx
  obtain ⟨⟨o, vs, e1, e2, e3, e4⟩, _⟩ := (show ObjOk X.prog X.w H1 s1.heap a (exO a C (some d)) from I1.hok a _ ea)
  obtain ⟨mA, ns, r⟩ := (show ObjOk X.prog X.w H1 s1.heap d (.xd fs) from I1.hok d _ ed)
  obtain ⟨od, ho, hl⟩ := lookIn_ns ns
  have J : PySem.W.InstAt s1.heap a o C (some od) := ⟨e1, e2, by unfold notCls; rw [e4], by rw [e3]; exact ho⟩
  obtain ⟨u', hu, ru⟩ := RelO.some_of (v := v) (o := mA f) (by rw [← l]; exact r f)
  exact bexc_get I1.kIn J k (PySem.W.findObj_own hd n rfl (by rw [hl, hu])) (handed_of ru) ⟨v, H1, I1.tok _, ru, q⟩
end
end L2

set_option maxRecDepth 100000
set_option maxHeartbeats 4000000
namespace DayM
noncomputable abbrev Part := Int × Int × Int
noncomputable def dw (q : Part) (t : Int) : Int := q.2.1 * (t - q.1) / q.2.2
noncomputable def nil3 : Part := (0, 0, 1)
structure IsPl (ps : List Part) (t : Int) (k : Nat) : Prop where
  lt : k < ps.length
  le : (ps.getD k nil3).1 ≤ t
  nx : k + 1 < ps.length → t < (ps.getD (k + 1) nil3).1
structure Ok (ticks : Int) (ps : List Part) : Prop where
  t1 : 1 ≤ ticks
  t2 : ticks ≤ 1000000
  ne : 0 < ps.length
  z : (ps.getD 0 nil3).1 = 0
  up : ∀ i, i + 1 < ps.length → (ps.getD i nil3).1 < (ps.getD (i + 1) nil3).1
  b : ∀ i, i < ps.length → (ps.getD i nil3).1 < ticks ∧ 0 ≤ (ps.getD i nil3).2.1 ∧ (ps.getD i nil3).2.1 ≤ 1000000 ∧ 1 ≤ (ps.getD i nil3).2.2 ∧ (ps.getD i nil3).2.2 ≤ 1000000
variable {ticks : Int} {ps : List Part}
noncomputable def pl (ps : List Part) (t : Int) : Nat → Nat
  | 0 => 0
  | k + 1 => if (ps.getD (k + 1) nil3).1 ≤ t then k + 1 else pl ps t k
noncomputable abbrev plc (ps : List Part) (t : Int) : Nat := pl ps t (ps.length - 1)
noncomputable def endOf (ticks : Int) (ps : List Part) (i : Nat) : Int := if i + 1 < ps.length then (ps.getD (i + 1) nil3).1 else ticks
noncomputable def sumAt (ticks : Int) (ps : List Part) : Nat → Int
  | 0 => 0
  | i + 1 => sumAt ticks ps i + dw (ps.getD i nil3) (endOf ticks ps i)
noncomputable def due (ticks : Int) (ps : List Part) (t : Int) : Int := dw (ps.getD (plc ps (t % ticks)) nil3) (t % ticks + 1) - dw (ps.getD (plc ps (t % ticks)) nil3) (t % ticks)
noncomputable def total (ticks : Int) (ps : List Part) : Nat → Int
  | 0 => 0
  | n + 1 => total ticks ps n + due ticks ps n
end DayM

set_option maxRecDepth 100000
set_option maxHeartbeats 4000000
namespace Sd
structure S where
  now : Int
  run : Bool
  con : Int
  wai : Int
  ask : Int
  mis : Int
  tot : Int
  fre : Int
  sent : List Int
structure C where
  due : Int → Int
  rules : List (Int × Int)
  lock : Int
  dose : Int
  hold : Int

noncomputable def minL : List Int → Int
  | [] => 0
  | [x] => x
  | x :: y :: r => min x (minL (y :: r))
noncomputable def maxL : List Int → Int
  | [] => 0
  | [x] => x
  | x :: y :: r => max x (maxL (y :: r))
theorem minL_mem : ∀ {xs : List Int}, xs ≠ [] → minL xs ∈ xs
  | [], h => absurd rfl h
  | [x], _ => by simp [minL]
  | x :: y :: r, _ => by
    have ih := minL_mem (xs := y :: r) (by simp)
    show min x (minL (y :: r)) ∈ _
    rcases Int.le_total x (minL (y :: r)) with h | h
    · rw [show min x (minL (y :: r)) = x by omega]; simp
    · rw [show min x (minL (y :: r)) = minL (y :: r) by omega]; exact List.mem_cons_of_mem _ ih
theorem minL_le : ∀ {xs : List Int} {a : Int}, a ∈ xs → minL xs ≤ a
  | [], a, h => by simp at h
  | [x], a, h => by simp at h; rw [h]; exact Int.le_refl _
  | x :: y :: r, a, h => by
    show min x (minL (y :: r)) ≤ a
    rcases List.mem_cons.mp h with h | h
    · rw [h]; omega
    · have := minL_le (xs := y :: r) h; omega
theorem maxL_mem : ∀ {xs : List Int}, xs ≠ [] → maxL xs ∈ xs
  | [], h => absurd rfl h
  | [x], _ => by simp [maxL]
  | x :: y :: r, _ => by
    have ih := maxL_mem (xs := y :: r) (by simp)
    show max x (maxL (y :: r)) ∈ _
    rcases Int.le_total x (maxL (y :: r)) with h | h
    · rw [show max x (maxL (y :: r)) = maxL (y :: r) by omega]; exact List.mem_cons_of_mem _ ih
    · rw [show max x (maxL (y :: r)) = x by omega]; simp
theorem le_maxL : ∀ {xs : List Int} {a : Int}, a ∈ xs → a ≤ maxL xs
  | [], a, h => by simp at h
  | [x], a, h => by simp at h; rw [h]; exact Int.le_refl _
  | x :: y :: r, a, h => by
    show a ≤ max x (maxL (y :: r))
    rcases List.mem_cons.mp h with h | h
    · rw [h]; omega
    · have := le_maxL (xs := y :: r) h; omega
theorem maxL_uniq {xs : List Int} {m : Int} (h : m ∈ xs) (hl : ∀ a ∈ xs, a ≤ m) : m = maxL xs := by
  have h1 := le_maxL h
  have h2 := hl _ (maxL_mem (fun z => by rw [z] at h; simp at h))
  omega

noncomputable def sumL (xs : List Int) (m : Int) : Int := (xs.drop (max 0 ((xs.length : Int) - m)).toNat).sum
noncomputable def lefts (rules : List (Int × Int)) (sent : List Int) : List Int := rules.map fun r => r.2 - sumL sent (r.1 - 1)
noncomputable def room (rules : List (Int × Int)) (sent : List Int) : Int := max 0 (minL (lefts rules sent))
noncomputable def longest (rules : List (Int × Int)) : Int := maxL (rules.map (·.1))
noncomputable def wai1 (c : C) (s : S) : Int := if s.run = true then s.wai + c.due s.now else s.wai
noncomputable def many (c : C) (s : S) : Int := min (min (room c.rules s.sent) s.con) (wai1 c s + s.ask)
noncomputable def push (L : Int) (sent : List Int) (m : Int) : List Int := if ((sent ++ [m]).length : Int) > L then (sent ++ [m]).tail else sent ++ [m]
noncomputable def tick (c : C) (s : S) : S :=
  { now := s.now + 1, run := s.run, con := s.con - many c s,
    wai := wai1 c s - min (many c s) (wai1 c s) - max 0 (wai1 c s - min (many c s) (wai1 c s) - c.hold),
    ask := s.ask - (many c s - min (many c s) (wai1 c s)),
    mis := s.mis + max 0 (wai1 c s - min (many c s) (wai1 c s) - c.hold),
    tot := s.tot + many c s, fre := max 0 (s.fre - 1), sent := push (longest c.rules) s.sent (many c s) }
noncomputable def wtick (c : C) (s : S) : S :=
  { now := s.now + 1, run := s.run, con := s.con - many c s,
    wai := min (max 0 (wai1 c s - many c s)) c.hold,
    ask := wai1 c s + s.ask - many c s - max 0 (wai1 c s - many c s),
    mis := s.mis + max 0 (wai1 c s - many c s) - min (max 0 (wai1 c s - many c s)) c.hold,
    tot := s.tot + many c s, fre := s.fre, sent := s.sent ++ [many c s] }
noncomputable def lastN (L : Int) (xs : List Int) : List Int := xs.drop ((xs.length : Int) - L).toNat
theorem sumL_lastN {L m : Int} {xs : List Int} (h0 : 0 ≤ m) (h : m ≤ L) : sumL (lastN L xs) m = sumL xs m := by
  unfold sumL lastN
  rw [List.drop_drop]
  congr 2
  rw [List.length_drop]
  omega
theorem push_lastN {L m : Int} {xs : List Int} (h : 0 ≤ L) : push L (lastN L xs) m = lastN L (xs ++ [m]) := by
  unfold push lastN
  rw [List.length_append, List.length_append, List.length_drop]
  simp only [List.length_singleton]
  by_cases hx : (xs.length : Int) < L
  · rw [if_neg (by omega), show ((xs.length : Int) - L).toNat = 0 by omega, show (((xs.length + 1 : Nat) : Int) - L).toNat = 0 by omega]
    rfl
  · rw [if_pos (by omega)]
    have e : (((xs.length + 1 : Nat) : Int) - L).toNat = ((xs.length : Int) - L).toNat + 1 := by omega
    rw [e, ← List.drop_one]
    rw [show List.drop ((xs.length : Int) - L).toNat xs ++ [m] = List.drop ((xs.length : Int) - L).toNat (xs ++ [m]) by rw [List.drop_append_of_le_length (by omega)]]
    rw [List.drop_drop]
theorem room_lastN {rules : List (Int × Int)} {xs : List Int} (h : ∀ r ∈ rules, 1 ≤ r.1) : room rules (lastN (longest rules) xs) = room rules xs := by
  unfold room lefts
  congr 2
  refine List.map_congr_left fun r hr => ?_
  have := h r hr
  have := le_maxL (List.mem_map_of_mem (f := (·.1)) hr)
  rw [sumL_lastN (by omega) (by unfold longest; omega)]
structure Rel (c : C) (s w : S) : Prop where
  now : s.now = w.now
  run : s.run = w.run
  con : s.con = w.con
  wai : s.wai = w.wai
  ask : s.ask = w.ask
  mis : s.mis = w.mis
  tot : s.tot = w.tot
  fre : s.fre = max 0 (w.fre - w.now)
  sent : s.sent = lastN (longest c.rules) w.sent
theorem Rel.room {c : C} {s w : S} (r : Rel c s w) (h : ∀ r ∈ c.rules, 1 ≤ r.1) : room c.rules s.sent = room c.rules w.sent := by rw [r.sent, room_lastN h]
theorem Rel.wai1 {c : C} {s w : S} (r : Rel c s w) : wai1 c s = wai1 c w := by unfold Sd.wai1; rw [r.run, r.wai, r.now]
theorem Rel.many {c : C} {s w : S} (r : Rel c s w) (h : ∀ r ∈ c.rules, 1 ≤ r.1) : many c s = many c w := by unfold Sd.many; rw [r.room h, r.con, r.ask, r.wai1]
theorem longest_nn {rules : List (Int × Int)} (h : ∀ r ∈ rules, 1 ≤ r.1) : 0 ≤ longest rules := by
  unfold longest
  by_cases hn : rules.map (·.1) = []
  · rw [hn]; exact Int.le_refl _
  · obtain ⟨r, hr, e⟩ := List.mem_map.mp (maxL_mem hn)
    have := h r hr
    rw [← e]; omega
theorem Rel.tick {c : C} {s w : S} (r : Rel c s w) (h : ∀ r ∈ c.rules, 1 ≤ r.1) : Rel c (tick c s) (wtick c w) := by
  have e1 := r.many h
  have e2 := r.wai1
  have hf := r.fre
  have h1 := r.now
  have h2 := r.con
  have h3 := r.ask
  have h4 := r.mis
  have h5 := r.tot
  constructor
  · show s.now + 1 = w.now + 1; omega
  · exact r.run
  · show s.con - Sd.many c s = w.con - Sd.many c w; omega
  · show Sd.wai1 c s - min (Sd.many c s) (Sd.wai1 c s) - max 0 (Sd.wai1 c s - min (Sd.many c s) (Sd.wai1 c s) - c.hold) = min (max 0 (Sd.wai1 c w - Sd.many c w)) c.hold
    rw [e1, e2]; omega
  · show s.ask - (Sd.many c s - min (Sd.many c s) (Sd.wai1 c s)) = Sd.wai1 c w + w.ask - Sd.many c w - max 0 (Sd.wai1 c w - Sd.many c w)
    rw [e1, e2]; omega
  · show s.mis + max 0 (Sd.wai1 c s - min (Sd.many c s) (Sd.wai1 c s) - c.hold) = w.mis + max 0 (Sd.wai1 c w - Sd.many c w) - min (max 0 (Sd.wai1 c w - Sd.many c w)) c.hold
    rw [e1, e2]; omega
  · show s.tot + Sd.many c s = w.tot + Sd.many c w; omega
  · show max 0 (s.fre - 1) = max 0 (w.fre - (w.now + 1)); omega
  · show push (longest c.rules) s.sent (Sd.many c s) = lastN (longest c.rules) (w.sent ++ [Sd.many c w])
    rw [r.sent, push_lastN (longest_nn h), e1]

/-! ### deeds -/
inductive An where
  | non | num (n : Int) | set | lck | thr
  deriving DecidableEq
inductive Wd where
  | tick | press | fill | report | stop | start
  deriving DecidableEq
noncomputable def plc (xs : List Int) (back : Int) : Nat := ((xs.length : Int) - back).toNat
noncomputable def known (xs : List Int) (back : Int) : Int := xs.getD (plc xs back) 0
noncomputable def RepOk (L : Int) (xs : List Int) (back m : Int) : Prop := 1 ≤ back ∧ back ≤ L ∧ back ≤ xs.length ∧ 0 ≤ m ∧ m ≤ known xs back
noncomputable instance (L : Int) (xs : List Int) (back m : Int) : Decidable (RepOk L xs back m) := by unfold RepOk; exact inferInstance
/-! ### what holds of a pump that is not loaded -/
structure Good (c : C) : Prop where
  w1 : ∀ r ∈ c.rules, 1 ≤ r.1 ∧ r.1 ≤ 1000
  m0 : ∀ r ∈ c.rules, 0 ≤ r.2 ∧ r.2 ≤ 1000000
  ne : c.rules ≠ []
  lk : 0 ≤ c.lock ∧ c.lock ≤ 1000000
  ds : 0 ≤ c.dose ∧ c.dose ≤ 1000000
  hd : 0 ≤ c.hold ∧ c.hold ≤ 1000000
  due : ∀ t, 0 ≤ t → 0 ≤ c.due t
theorem Good.win {c : C} (g : Good c) : ∀ r ∈ c.rules, 1 ≤ r.1 := fun r hr => (g.w1 r hr).1
structure Ok (c : C) (s : S) : Prop where
  now : 0 ≤ s.now
  con : 0 ≤ s.con
  wai : 0 ≤ s.wai
  ask : 0 ≤ s.ask
  mis : 0 ≤ s.mis
  tot : 0 ≤ s.tot
  fre : 0 ≤ s.fre ∧ s.fre ≤ 1000000
  len : (s.sent.length : Int) ≤ longest c.rules
  all : ∀ x ∈ s.sent, 0 ≤ x ∧ x ≤ 1000000
  sum : s.sent.sum ≤ s.tot
theorem sum_nn : ∀ {xs : List Int}, (∀ x ∈ xs, 0 ≤ x) → 0 ≤ xs.sum
  | [], _ => by simp
  | x :: r, h => by
    rw [List.sum_cons]
    have := h x (by simp)
    have := sum_nn (xs := r) fun y hy => h y (List.mem_cons_of_mem _ hy)
    omega
theorem room_le {c : C} (g : Good c) {xs : List Int} (h : ∀ x ∈ xs, 0 ≤ x) : 0 ≤ room c.rules xs ∧ room c.rules xs ≤ 1000000 := by
  unfold room
  constructor
  · omega
  · obtain ⟨r, hr, e⟩ := List.mem_map.mp (minL_mem (xs := lefts c.rules xs) (by unfold lefts; simpa using g.ne))
    have := g.m0 r hr
    have h2 : 0 ≤ sumL xs (r.1 - 1) := sum_nn fun x hx => h x (List.mem_of_mem_drop hx)
    rw [← e]; omega
theorem wai1_nn {c : C} (g : Good c) {s : S} (o : Ok c s) : 0 ≤ wai1 c s := by
  unfold wai1
  have := g.due _ o.now
  have := o.wai
  split <;> omega
theorem many_nn {c : C} (g : Good c) {s : S} (o : Ok c s) : 0 ≤ many c s ∧ many c s ≤ 1000000 ∧ many c s ≤ s.con ∧ many c s ≤ wai1 c s + s.ask := by
  have h1 := room_le g (xs := s.sent) fun x hx => (o.all x hx).1
  have h2 := wai1_nn g o
  have h3 := o.con
  have h4 := o.ask
  unfold many
  omega
/-! ### nothing is lost -/
structure Book (c : C) (s : S) (out : List Int) (filled wanted : Int) : Prop where
  f : s.con + s.tot = filled
  w : s.wai + s.ask + s.mis + s.tot = wanted
  t : s.tot = out.sum
  o : ∀ x ∈ out, 0 ≤ x ∧ x ≤ 1000000
  se : s.sent = lastN (longest c.rules) out
  nw : s.now = out.length
/-! ### as soon as may be -/
/-! ### never more in a window -/
noncomputable def Never (rules : List (Int × Int)) (out : List Int) : Prop := ∀ r ∈ rules, ∀ a : Nat, ((out.drop a).take r.1.toNat).sum ≤ r.2
theorem sum_drop_le : ∀ {xs : List Int} {n : Nat}, (∀ x ∈ xs, 0 ≤ x) → (xs.drop n).sum ≤ xs.sum
  | [], n, _ => by simp
  | x :: r, 0, h => by simp
  | x :: r, n + 1, h => by
    rw [List.drop_succ_cons, List.sum_cons]
    have := h x (by simp)
    have := sum_drop_le (xs := r) (n := n) fun y hy => h y (List.mem_cons_of_mem _ hy)
    omega
theorem Never.nil {rules : List (Int × Int)} (h : ∀ r ∈ rules, 0 ≤ r.2) : Never rules [] := fun r hr a => by simpa using h r hr
theorem Never.app {rules : List (Int × Int)} {out : List Int} {m : Int} (n : Never rules out) (hw : ∀ r ∈ rules, 1 ≤ r.1) (h0 : ∀ x ∈ out, 0 ≤ x) (hm : 0 ≤ m) (hr : ∀ r ∈ rules, sumL out (r.1 - 1) + m ≤ r.2) : Never rules (out ++ [m]) := by
  intro r hrm a
  have h1 := n r hrm a
  have h2 := hr r hrm
  have hw := hw r hrm
  by_cases ha : a ≤ out.length
  · rw [List.drop_append_of_le_length ha]
    by_cases hl : (out.drop a).length < r.1.toNat
    · -- the row ends with the new tick
      rw [List.take_of_length_le (by simp at hl ⊢; omega), List.sum_append]
      have e : out.drop a = (out.drop (max 0 ((out.length : Int) - (r.1 - 1))).toNat).drop (a - (max 0 ((out.length : Int) - (r.1 - 1))).toNat) := by
        rw [List.drop_drop]
        congr 1
        rw [List.length_drop] at hl
        omega
      have h3 : (out.drop a).sum ≤ sumL out (r.1 - 1) := by
        rw [e]
        exact sum_drop_le fun x hx => h0 x (List.mem_of_mem_drop hx)
      simp
      omega
    · rw [List.take_append_of_le_length (by omega)]
      exact h1
  · rw [List.drop_eq_nil_of_le (by simp; omega)]
    have := n r hrm out.length
    simp at this
    simpa using this

theorem never_last {rules : List (Int × Int)} {out : List Int} (n : Never rules out) (hw : ∀ r ∈ rules, 1 ≤ r.1) (h0 : ∀ x ∈ out, 0 ≤ x) : ∀ r ∈ rules, sumL out (r.1 - 1) ≤ r.2 := by
  intro r hr
  have hw := hw r hr
  have h1 := n r hr (max 0 ((out.length : Int) - (r.1 - 1))).toNat
  rw [List.take_of_length_le (by rw [List.length_drop]; omega)] at h1
  exact h1
theorem Never.tick {c : C} (g : Good c) {s : S} {out : List Int} (k : Ok c s) (hs : s.sent = lastN (longest c.rules) out) (h0 : ∀ x ∈ out, 0 ≤ x) (n : Never c.rules out) : Never c.rules (out ++ [many c s]) := by
  have hm := many_nn g k
  have e : room c.rules s.sent = room c.rules out := by rw [hs, room_lastN g.win]
  have hl := never_last n g.win h0
  refine n.app g.win h0 hm.1 fun r hr => ?_
  have h1 := minL_le (xs := lefts c.rules out) (List.mem_map_of_mem (f := fun r => r.2 - sumL out (r.1 - 1)) hr)
  have h2 : many c s ≤ room c.rules out := by rw [← e]; unfold many; omega
  have h3 : 0 ≤ minL (lefts c.rules out) := by
    obtain ⟨q, hq, eq⟩ := List.mem_map.mp (minL_mem (xs := lefts c.rules out) (by unfold lefts; simpa using g.ne))
    have := hl q hq
    rw [← eq]; omega
  unfold room at h2
  omega
end Sd

set_option Elab.async false
set_option linter.all false
set_option maxRecDepth 100000
set_option maxHeartbeats 4000000
/-! Own: lines of a word and numbers, split and read again. -/
namespace Tx
open PySem
noncomputable def num (n : Int) : Str := Str.ofString (toString n)
/-! ### numbers -/
noncomputable def sp : Str := ⟨#[32]⟩
theorem sp_is : Str.ofString " " = sp := by decide +kernel
noncomputable def line (w : Str) (ns : List Int) : Str := Txt.join sp (w :: ns.map num)
end Tx

set_option Elab.async false
set_option linter.all false
set_option maxRecDepth 100000
set_option maxHeartbeats 4000000
/-! Own: lines of any kind. -/
namespace Tx
open PySem
open PySem.NumText (AllDigits digitsVal)
noncomputable def okNum (z : Str) : Bool := decide (1 ≤ z.length) && decide (z.length ≤ 15) && z.cps.toList.all (fun c => decide (48 ≤ c ∧ c ≤ 57)) && (decide (z.length = 1) || decide (z.cps.toList.head? ≠ some 48))
noncomputable def val (z : Str) : Int := ((digitsVal z.cps.toList : Nat) : Int)
theorem len_eq (z : Str) : z.cps.toList.length = z.length := by simp [Str.length]
structure IsNum (z : Str) : Prop where
  l1 : 1 ≤ z.length
  l2 : z.length ≤ 15
  d : AllDigits z.cps.toList
  h : z.length = 1 ∨ z.cps.toList.head? ≠ some 48
theorem okNum_iff {z : Str} : okNum z = true ↔ IsNum z := by
  unfold okNum
  simp only [Bool.and_eq_true, Bool.or_eq_true, decide_eq_true_eq, List.all_eq_true]
  exact ⟨fun ⟨⟨⟨a, b⟩, c⟩, d⟩ => ⟨a, b, c, d⟩, fun ⟨a, b, c, d⟩ => ⟨⟨⟨a, b⟩, c⟩, d⟩⟩
theorem val_lt : ∀ (cs : List Nat) (a k : Nat), AllDigits cs → a < 10 ^ k → cs.foldl (fun acc c => acc * 10 + (c - 48)) a < 10 ^ (k + cs.length)
  | [], a, k, _, h => by simpa using h
  | c :: cs, a, k, hd, h => by
    have hc := hd.head
    have := val_lt cs (a * 10 + (c - 48)) (k + 1) hd.tail (by rw [Nat.pow_succ]; omega)
    rw [List.length_cons, show k + (cs.length + 1) = k + 1 + cs.length by omega]
    exact this
theorem IsNum.ne {z : Str} (n : IsNum z) : z.cps.toList ≠ [] := fun e => by
  have := n.l1
  rw [← len_eq, e] at this
  exact absurd this (by decide)
theorem IsNum.reads {z : Str} (n : IsNum z) : PySem.intText? z = some (val z) := PySem.intText_digits n.d n.ne (Nat.le_trans n.l2 (by decide))
theorem IsNum.lt {z : Str} (n : IsNum z) : 0 ≤ val z ∧ val z < 10 ^ 15 := by
  have h := val_lt z.cps.toList 0 0 n.d (by decide)
  rw [Nat.zero_add, len_eq] at h
  have h2 : (10 : Nat) ^ z.length ≤ 10 ^ 15 := Nat.pow_le_pow_right (by decide) n.l2
  refine ⟨Int.natCast_nonneg _, ?_⟩
  have : digitsVal z.cps.toList < 10 ^ 15 := Nat.lt_of_lt_of_le h h2
  unfold val
  omega
theorem chars_back : ∀ {cs : List Nat}, AllDigits cs → (cs.map Char.ofNat).map Char.toNat = cs
  | [], _ => rfl
  | c :: cs, h => by
    have hc := h.head
    have : ∀ d : Nat, d < 58 → (Char.ofNat d).toNat = d := by decide
    rw [List.map_cons, List.map_cons, this c (by omega), chars_back h.tail]
theorem IsNum.back {z : Str} (n : IsNum z) : num (val z) = z := by
  refine Str.ext' (Array.toList_inj.mp ?_)
  unfold num val
  rw [PySem.W.KIN.signs_num]
  obtain ⟨m, hm⟩ : ∃ m, z.cps.toList.length = m + 1 := ⟨z.cps.toList.length - 1, by have := n.l1; rw [len_eq]; omega⟩
  rw [PySem.NumText.toDigits_digitsVal m _ hm n.d, chars_back n.d]
  rcases n.h with h | h
  · left
    rw [len_eq] at hm
    omega
  · right
    cases e : z.cps.toList with
    | nil => exact absurd e n.ne
    | cons c r =>
      rw [e] at h
      have := n.d c (by rw [e]; exact List.mem_cons_self ..)
      exact ⟨c, r, rfl, by
        have : c ≠ 48 := fun q => h (by rw [q]; rfl)
        omega⟩
theorem num_len15 {n : Int} (h0 : 0 ≤ n) (h1 : n < 10 ^ 15) : 1 ≤ (num n).length ∧ (num n).length ≤ 15 := by
  obtain ⟨m, rfl⟩ := Int.eq_ofNat_of_zero_le h0
  have e : (num ((m : Nat) : Int)).length = (num ((m : Nat) : Int)).cps.toList.length := (len_eq _).symm
  rw [e]
  unfold num
  rw [PySem.W.KIN.signs_num, List.length_map]
  refine ⟨Nat.length_toDigits_pos, ?_⟩
  have hm : m < 10 ^ 15 := by omega
  exact (Nat.length_toDigits_le_iff (by decide) (by decide)).mpr hm
theorem joinOkB {ts : List Str} {B : Nat} (h : ∀ t ∈ ts, t.length ≤ B) (hn : ts.length * B + ts.length ≤ 16777216) : JoinOk ⟨#[32]⟩ ts = true := by
  unfold JoinOk
  rw [StrLaws.joinFits (B := B) h (by show ts.length * B + ts.length * 1 ≤ _; omega)]
  rfl
theorem figD (c : Nat) : (!(Builtin.Str.occurrences (Str.ofString "0123456789") ⟨#[c]⟩ 0 (Str.ofString "0123456789").length 1).isEmpty) = decide (48 ≤ c ∧ c ≤ 57) := by
  rw [StrLaws.found_one]
  have e : (Str.ofString "0123456789").cps.toList = [48, 49, 50, 51, 52, 53, 54, 55, 56, 57] := by decide +kernel
  rw [e, decide_eq_decide]
  simp only [List.mem_cons, List.not_mem_nil, or_false]
  omega
/-! ### what a line has -/
noncomputable abbrev cut (z : Str) : List Str := Txt.split z sp
theorem cut_pos (z : Str) : cut z ≠ [] := fun e => by
  have := PyProof.Rows.split_pos z sp
  have e : Txt.split z sp = [] := e
  rw [e] at this
  exact absurd this (by decide)
theorem cut_join (z : Str) : Txt.join sp (cut z) = z := by
  unfold Txt.join
  rw [StrLaws.glued_eq_join]
  exact StrLaws.join_split z sp
noncomputable def jl (ts : List Str) : Nat := (ts.map fun t => t.length + 1).sum
theorem join_len : ∀ (ts : List Str), ts ≠ [] → (Str.join sp ts).length + 1 = jl ts
  | [], h => absurd rfl h
  | [x], _ => by simp [jl, Str.join]
  | x :: y :: r, _ => by
    have ih := join_len (y :: r) (by simp)
    show (x ++ sp ++ Str.join sp (y :: r)).length + 1 = _
    rw [Str.length_append, Str.length_append]
    have e1 : sp.length = 1 := rfl
    have e2 : jl (x :: y :: r) = x.length + 1 + jl (y :: r) := by simp [jl]
    omega
theorem jl_cut (z : Str) : jl (cut z) = z.length + 1 := by
  have h := join_len (cut z) (cut_pos z)
  have e : Str.join sp (cut z) = z := StrLaws.join_split z sp
  rw [e] at h
  exact h.symm
theorem jl_app (a b : List Str) : jl (a ++ b) = jl a + jl b := by simp [jl]
theorem jl_take (k : Nat) (a : List Str) : jl (a.take k) + jl (a.drop k) = jl a := by rw [← jl_app, List.take_append_drop]
theorem jl_len (a : List Str) : a.length ≤ jl a := by
  induction a with
  | nil => exact Nat.le_refl _
  | cons x r ih => have : jl (x :: r) = x.length + 1 + jl r := by simp [jl]
                   rw [List.length_cons]; omega
theorem jl_mem {a : List Str} {t : Str} (h : t ∈ a) : t.length + 1 ≤ jl a := by
  induction a with
  | nil => cases h
  | cons x r ih =>
    have e : jl (x :: r) = x.length + 1 + jl r := by simp [jl]
    rcases List.mem_cons.mp h with z | z
    · rw [z]; omega
    · have := ih z; omega
theorem join_le (ts : List Str) : (Txt.join sp ts).length ≤ jl ts := by
  unfold Txt.join
  rw [StrLaws.glued_eq_join]
  by_cases h : ts = []
  · rw [h]; exact Nat.zero_le _
  · have := join_len ts h; omega
theorem joinOkJ {ts : List Str} (h : jl ts ≤ 1000) : JoinOk ⟨#[32]⟩ ts = true := by
  have h1 := jl_len ts
  refine joinOkB (B := 1000) (fun t ht => by have := jl_mem ht; omega) ?_
  omega
end Tx

set_option Elab.async false
set_option linter.all false
set_option maxRecDepth 100000
set_option maxHeartbeats 4000000
-- MAC BEGIN
local macro_rules | `(tactic| walk_at "ne") => `(tactic| first | assumption | (apply Ne.symm; assumption))
local macro_rules | `(tactic| walk_at "hp") => `(tactic| first
  | assumption
  | exact L2.upd_same
  | (apply L2.at_ne; (walk_at "ne"); (walk_at "hp"))
  | (apply L2.at_new; assumption; (walk_at "hp"))
  | (apply L2.at_same; assumption; (walk_at "hp")))
local macro_rules | `(tactic| walk_at "sl") => `(tactic| first
  | assumption
  | (apply L2.sl_at; (walk_at "hp"))
  | (apply L2.sl_ne; (walk_at "ne"); (walk_at "sl"))
  | (apply L2.sl_new; assumption; (walk_at "sl"))
  | (apply L2.sl_same; assumption; (walk_at "sl")))
local macro_rules | `(tactic| walk_at "st") => `(tactic| first
  | assumption
  | (apply L2.st_at; (walk_at "hp"))
  | (apply L2.st_ne; (walk_at "ne"); (walk_at "st"))
  | (apply L2.st_new; assumption; (walk_at "st"))
  | (apply L2.st_mut; assumption; exact True.intro; (walk_at "st"))
  | (apply L2.st_same; assumption; (walk_at "st")))
local macro_rules | `(tactic| walk_at "sz") => `(tactic| first
  | exact Nat.le_trans (m := 900) (Nat.le_of_ble_eq_true rfl) (by decide)
  | (refine Nat.le_trans (m := 900) ?_ (by decide); simp only [List.length_map, List.length_append, List.length_cons, List.length_nil]; omega))
local macro_rules | `(tactic| walk_at "at") => `(tactic| first
  | exact rfl
  | assumption)
local macro_rules | `(tactic| walk_at "ix") => `(tactic| first
  | assumption
  | exact rfl)
local macro_rules | `(tactic| walk_at "vn") => `(tactic| first
  | exact L2.intNe (by omega)
  | exact L2.refNon
  | exact L2.intNon
  | exact L2.strNon
  | exact L2.blNon
  | exact L2.nonInt
  | exact L2.nonStr
  | exact L2.strInt
  | exact L2.intStr
  | decide)
local macro_rules | `(tactic| walk_at "if") => `(tactic| first
  | with_reducible refine L2.iteT ?_
  | with_reducible refine L2.iteF ?_
  | ((with_reducible refine L2.itY (c := _ < _) ?_ ?_); omega)
  | ((with_reducible refine L2.itN (c := _ < _) ?_ ?_); omega)
  | ((with_reducible refine L2.itY (c := _ ≤ _) ?_ ?_); omega)
  | ((with_reducible refine L2.itN (c := _ ≤ _) ?_ ?_); omega)
  | ((with_reducible refine L2.itY ?_ ?_); (first | exact rfl | assumption | exact L2.intEq (by omega)))
  | ((with_reducible refine L2.itN ?_ ?_); (first | assumption | walk_at "vn"))
  | ((with_reducible refine L2.ntN ?_ ?_); (first | exact rfl | assumption | exact L2.intEq (by omega)))
  | ((with_reducible refine L2.ntY ?_ ?_); (first | assumption | walk_at "vn"))
  | refine L2.iteT ?_
  | refine L2.iteF ?_)
local macro_rules | `(tactic| walk_at "and") => `(tactic| first
  | refine And.intro rfl ?_
  | ((with_reducible show L2.CMul _ _ ∧ _); refine And.intro (by first | exact Or.inl ⟨by omega, by omega⟩ | exact Or.inr ⟨by omega, by omega⟩) ?_)
  | ((with_reducible show L2.CDiv _ _ ∧ _); refine And.intro ⟨by omega, by omega⟩ ?_)
  | ((with_reducible show _ ≤ PySem.sizeLine ∧ _); refine And.intro (by walk_at "sz") ?_)
  | refine And.intro (by assumption) ?_
  | refine And.intro (by omega) ?_
  | refine And.intro (by show (0 : Int) < _; omega) ?_
  | refine And.intro ⟨by omega, by simp only [List.length_cons, List.length_nil]; omega⟩ ?_
  | refine And.intro (Or.inl ⟨rfl, _, (by walk_at "sl")⟩) ?_
  | refine And.intro ⟨_, (by walk_at "sl")⟩ ?_
  | refine And.intro ⟨_, (by walk_at "st")⟩ ?_
  | refine And.intro (by decide) ?_
  | refine And.intro (by walk_at "sz") ?_)
local macro_rules | `(tactic| walk_at "r1") => `(tactic| first
  | ((with_reducible show @ite _ _ _ _ _); walk_at "if")
  | refine ⟨_, rfl, ?_⟩
  | refine ⟨_, _, rfl, rfl, ?_⟩
  | ((with_reducible show _ ∧ _); walk_at "and")
  | refine ⟨_, _, _, rfl, (by walk_at "hp"), ?_⟩
  | refine ⟨_, _, _, rfl, (by walk_at "sl"), ?_⟩
  | refine ⟨_, _, rfl, (by walk_at "hp"), ?_⟩
  | refine ⟨_, _, (by walk_at "hp"), ?_⟩
  | refine ⟨_, _, _, _, rfl, rfl, (by walk_at "st"), (by walk_at "at"), ?_⟩
  | refine ⟨_, _, _, _, rfl, rfl, (by walk_at "sl"), (by walk_at "at"), ?_⟩
  | refine ⟨_, _, rfl, rfl, (by walk_at "hp"), ?_⟩
  | refine ⟨_, _, _, rfl, rfl, (by walk_at "hp"), ?_⟩
  | refine ⟨_, _, _, _, rfl, rfl, (by walk_at "hp"), (by walk_at "ix"), ?_⟩
  | refine ⟨_, _, _, _, rfl, rfl, (by walk_at "sl"), (by walk_at "sl"), ?_⟩
  | refine ⟨_, _, rfl, (by walk_at "st"), ?_⟩
  | refine ⟨_, _, rfl, Or.inl (by walk_at "sl"), ?_⟩
  | refine ⟨_, _, rfl, Or.inr (by walk_at "st"), ?_⟩
  | walk_at "and"
  | refine ⟨_, _, rfl, ?_⟩
  | refine ⟨_, _, _, rfl, ?_⟩
  | refine fun (H2 : L2.Hp) (s2 : L2.Same _ H2) => ?_
  | refine fun (z : PySem.Str) => ?_
  | refine fun (hz : PySem.Str.length _ ≤ 100000) => ?_)
local macro_rules | `(tactic| walk_at "rd") => `(tactic| repeat walk_at "r1")
local macro_rules | `(tactic| walk_at "cb") => `(tactic| refine ⟨_, _, _, _, rfl, (by decide), (by omega), (by omega), (by omega), fun hcb => ?_, fun hcb => ?_⟩)
local macro_rules | `(tactic| walk_at "g") => `(tactic| first | rfl | (intro _; rfl) | (intro _ _; rfl) | decide)
local macro_rules | `(tactic| walk_at "o") => `(tactic| first | exact Or.inl rfl | exact Or.inr (Or.inl rfl) | exact Or.inr (Or.inr rfl))
local macro_rules | `(tactic| walk_at "f") => `(tactic| first | exact .inl rfl | exact .inr rfl | assumption)
-- MAC END

namespace Sp
open PySem L2
noncomputable def top (i : Nat) : Stmt := PySem.Challenge.pw_stilldose_k31_bad_saves.main.body.getD i (.Pass ⟨0, 0, 0, 0⟩)
noncomputable def w_BadSave_init : { s : Stmt // s = inClass (top 6) 0 } := ⟨_, by conv => rhs; whnf⟩
noncomputable abbrev s_BadSave_init : Stmt := w_BadSave_init.1
noncomputable def w_check_between : { s : Stmt // s = top 8 } := ⟨_, by conv => rhs; whnf⟩
noncomputable abbrev s_check_between : Stmt := w_check_between.1
noncomputable def w_checked_rules : { s : Stmt // s = top 13 } := ⟨_, by conv => rhs; whnf⟩
noncomputable abbrev s_checked_rules : Stmt := w_checked_rules.1
noncomputable def w_longest_window : { s : Stmt // s = top 14 } := ⟨_, by conv => rhs; whnf⟩
noncomputable abbrev s_longest_window : Stmt := w_longest_window.1
noncomputable def w_Pump_init : { s : Stmt // s = inClass (top 17) 0 } := ⟨_, by conv => rhs; whnf⟩
noncomputable abbrev s_Pump_init : Stmt := w_Pump_init.1
noncomputable def w_counts : { s : Stmt // s = top 18 } := ⟨_, by conv => rhs; whnf⟩
noncomputable abbrev s_counts : Stmt := w_counts.1
noncomputable def w_set_counts : { s : Stmt // s = top 19 } := ⟨_, by conv => rhs; whnf⟩
noncomputable abbrev s_set_counts : Stmt := w_set_counts.1
noncomputable def w_line_of : { s : Stmt // s = top 24 } := ⟨_, by conv => rhs; whnf⟩
noncomputable abbrev s_line_of : Stmt := w_line_of.1
noncomputable def w_saved : { s : Stmt // s = top 25 } := ⟨_, by conv => rhs; whnf⟩
noncomputable abbrev s_saved : Stmt := w_saved.1
noncomputable def w_is_number : { s : Stmt // s = top 26 } := ⟨_, by conv => rhs; whnf⟩
noncomputable abbrev s_is_number : Stmt := w_is_number.1
noncomputable def w_numbers_of : { s : Stmt // s = top 27 } := ⟨_, by conv => rhs; whnf⟩
noncomputable abbrev s_numbers_of : Stmt := w_numbers_of.1
noncomputable def w_fits : { s : Stmt // s = top 28 } := ⟨_, by conv => rhs; whnf⟩
noncomputable abbrev s_fits : Stmt := w_fits.1
noncomputable def w_rows_of : { s : Stmt // s = top 29 } := ⟨_, by conv => rhs; whnf⟩
noncomputable abbrev s_rows_of : Stmt := w_rows_of.1
noncomputable def w_loaded : { s : Stmt // s = top 30 } := ⟨_, by conv => rhs; whnf⟩
noncomputable abbrev s_loaded : Stmt := w_loaded.1
noncomputable def w_drops_by : { s : Stmt // s = top 34 } := ⟨_, by conv => rhs; whnf⟩
noncomputable abbrev s_drops_by : Stmt := w_drops_by.1
noncomputable def w_check_part : { s : Stmt // s = top 35 } := ⟨_, by conv => rhs; whnf⟩
noncomputable abbrev s_check_part : Stmt := w_check_part.1
noncomputable def w_check_day : { s : Stmt // s = top 36 } := ⟨_, by conv => rhs; whnf⟩
noncomputable abbrev s_check_day : Stmt := w_check_day.1
noncomputable def w_drops_within : { s : Stmt // s = top 37 } := ⟨_, by conv => rhs; whnf⟩
noncomputable abbrev s_drops_within : Stmt := w_drops_within.1
noncomputable def w_sums_ahead : { s : Stmt // s = top 38 } := ⟨_, by conv => rhs; whnf⟩
noncomputable abbrev s_sums_ahead : Stmt := w_sums_ahead.1
noncomputable def w_Day_init : { s : Stmt // s = inClass (top 39) 0 } := ⟨_, by conv => rhs; whnf⟩
noncomputable abbrev s_Day_init : Stmt := w_Day_init.1
noncomputable def w_Lcell : { s : Stmt // s = top 41 } := ⟨_, by conv => rhs; whnf⟩
noncomputable abbrev s_Lcell : Stmt := w_Lcell.1
noncomputable def w_Lmix : { s : Stmt // s = top 42 } := ⟨_, by conv => rhs; whnf⟩
noncomputable abbrev s_Lmix : Stmt := w_Lmix.1
noncomputable def w_Lwhole : { s : Stmt // s = top 43 } := ⟨_, by conv => rhs; whnf⟩
noncomputable abbrev s_Lwhole : Stmt := w_Lwhole.1
noncomputable def w_Lwords : { s : Stmt // s = top 44 } := ⟨_, by conv => rhs; whnf⟩
noncomputable abbrev s_Lwords : Stmt := w_Lwords.1
noncomputable def w_Ldrawn : { s : Stmt // s = top 45 } := ⟨_, by conv => rhs; whnf⟩
noncomputable abbrev s_Ldrawn : Stmt := w_Ldrawn.1
noncomputable def w_Lchanged : { s : Stmt // s = top 46 } := ⟨_, by conv => rhs; whnf⟩
noncomputable abbrev s_Lchanged : Stmt := w_Lchanged.1
noncomputable def w_Lnumber : { s : Stmt // s = top 47 } := ⟨_, by conv => rhs; whnf⟩
noncomputable abbrev s_Lnumber : Stmt := w_Lnumber.1
noncomputable def w_Ldue : { s : Stmt // s = top 48 } := ⟨_, by conv => rhs; whnf⟩
noncomputable abbrev s_Ldue : Stmt := w_Ldue.1
noncomputable def w_law : { s : Stmt // s = top 49 } := ⟨_, by conv => rhs; whnf⟩
noncomputable abbrev s_law : Stmt := w_law.1
structure Fn (P : Program) (w : World) (K : PySem.W.Frag) (mg : Str → Option Value) (base : Heap) (CX : CXT) (k : Nat) (x : Str) (ps : List Str) (sp : Sp) (f : Addr) (fd : FuncData) : Prop where
  ok : FnOk P w K mg base CX k f fd ps sp
  m : mg x = some (.ref f)
  kp : PySem.W.keepIn K (.ref f) = true
  b : Binds K fd ps []
structure Mc (P : Program) (w : World) (K : PySem.W.Frag) (mg : Str → Option Value) (base : Heap) (CX : CXT) (k : Nat) (x : Str) (C : Addr) (ps : List Str) (sp : Sp) (f : Addr) (fd : FuncData) : Prop where
  ok : FnOk P w K mg base CX k f fd ps sp
  m : mg x = some (.ref C)
  mkk : Mk K C f
  b : Binds K fd ps []
structure Mt (P : Program) (w : World) (K : PySem.W.Frag) (mg : Str → Option Value) (base : Heap) (CX : CXT) (k : Nat) (x : Str) (C : Addr) (ps : List Str) (sp : Sp) (f : Addr) (fd : FuncData) : Prop where
  ok : FnOk P w K mg base CX k f fd ps sp
  cl : Cls K C
  mt : Meth K C x f
  b : Binds K fd ps []
section
variable {P : Program} {w : World} {K : PySem.W.Frag} {mg : Str → Option Value} {base : Heap}
/-! ### check_between -/
noncomputable def spCB (CB : Addr) : Sp := fun vs H Q E => ∃ (t : Str) (n lo hi : Int), vs = [.str t, .int n, .int lo, .int hi] ∧ t.length ≤ 100000 ∧ (-9000000000000000000 < n ∧ n < 9000000000000000000) ∧ (-9000000000000000000 < lo ∧ lo < 9000000000000000000) ∧ (-9000000000000000000 < hi ∧ hi < 9000000000000000000) ∧
  ((lo ≤ n ∧ n ≤ hi) → Q .non H) ∧ (¬ (lo ≤ n ∧ n ≤ hi) → E (.ref CB) none H)
structure ZCB (K : PySem.W.Frag) (mg : Str → Option Value) (CB : Addr) : Prop where
  xBadSetting : ExcV K CB
  BadSetting : mg "BadSetting" = some (.ref CB)
theorem sccheck_between : FnScope ["what", "number", "least", "most"] ["what", "number", "least", "most"] (defScope s_check_between) := ⟨rfl, rfl, rfl, by decide +kernel, rfl, by decide +kernel, by decide +kernel⟩
theorem ok_check_between {f CB : Addr} {fd : FuncData} (F : Fun K "check_between" "check_between" s_check_between f fd) (Z : ZCB K mg CB) : FnOk P w K mg base (CXE P w) 1 f fd ["what", "number", "least", "most"] (spCB CB) := by
  refine F.okX sccheck_between (fun vs H Q E h => ?_) (fun cdv A outer s H vs Q E hr h => ?_)
  · obtain ⟨t, n, lo, hi, rfl, _⟩ := h
    rfl
  obtain ⟨t, n, lo, hi, rfl, ht, hn, hlo, hhi, q, e⟩ := h
  refine ⟨_, (@pss_one _ _ _ (@ps_if _ _ _ _ _ _ _ _ (PW.pt (@pw_or _ _ _ _ _ _ _ (@pt_cmpR _ _ _ _ _ _ _ _ op_lt (@pv _ 1 _ _ rfl (by walk_at "o") (by decide) (by decide)) (@pv _ 2 _ _ rfl (by walk_at "o") (by decide) (by decide)) (nomark _)) (@pw_or1 _ _ _ _ (@pt_cmpR _ _ _ _ _ _ _ _ op_gt (@pv _ 1 _ _ rfl (by walk_at "o") (by decide) (by decide)) (@pv _ 3 _ _ rfl (by walk_at "o") (by decide) (by decide)) (nomark _))))) (@pss_one _ _ _ (@ps_raise _ _ _ _ _ _ _ _ _ _ (raises_fn own_cxOf) rfl Z.xBadSetting rfl Z.BadSetting (@pa_cons _ _ _ _ _ (@pe_join _ _ _ _ _ _ (@pj_cons _ _ _ _ _ (@pe_fmtS _ _ _ _ (@pv _ 0 _ _ rfl (by walk_at "o") (by decide) (by decide))) (@pj_cons _ _ _ _ _ (@pe_str _ _ _ _) (@pj_cons _ _ _ _ _ (@pe_fmtI _ _ _ _ (@pv _ 1 _ _ rfl (by walk_at "o") (by decide) (by decide))) (@pj_cons _ _ _ _ _ (@pe_str _ _ _ _) (@pj_cons _ _ _ _ _ (@pe_fmtI _ _ _ _ (@pv _ 2 _ _ rfl (by walk_at "o") (by decide) (by decide))) (@pj_cons _ _ _ _ _ (@pe_str _ _ _ _) (@pj_cons _ _ _ _ _ (@pe_fmtI _ _ _ _ (@pv _ 3 _ _ rfl (by walk_at "o") (by decide) (by decide))) (@pj_nil _)))))))) (by decide)) (@pa_nil _) (by walk_at "g")) (by walk_at "g") rfl (by decide))) (@pss_nil _))), ?_⟩
  by_cases hg : lo ≤ n ∧ n ≤ hi
  · walk_at "rd"
    exact q hg
  · have e := e hg
    by_cases h1 : n < lo
    · walk_at "rd"
      exact e
    · walk_at "rd"
      exact e
/-! ### rates -/
noncomputable def spBy (K : PySem.W.Frag) : Sp := fun vs H Q _ => ∃ (r : Addr) (d p t : Int), vs = [.ref r, .int t] ∧ SqT K H r [.int d, .int p] ∧ (0 ≤ d ∧ d ≤ 1000000) ∧ (1 ≤ p ∧ p ≤ 1000000) ∧ Q (.int (d * t / p)) H
theorem scdrops_by : FnScope ["rate", "ticks", "drops", "span"] ["rate", "ticks"] (defScope s_drops_by) := ⟨rfl, rfl, rfl, by decide +kernel, rfl, by decide +kernel, by decide +kernel⟩
theorem ok_drops_by {f : Addr} {fd : FuncData} (F : Fun K "drops_by" "drops_by" s_drops_by f fd) : FnOk P w K mg base CX0 1 f fd ["rate", "ticks"] (spBy K) := by
  refine F.ok scdrops_by (fun vs H Q E h => ?_) (fun cdv A outer s H vs Q E hr h => ?_)
  · obtain ⟨r, d, p, t, rfl, _⟩ := h
    rfl
  obtain ⟨r, d, p, t, rfl, hT, hd, hp, q⟩ := h
  refine ⟨_, (@pss_cons _ _ _ _ _ (@ps_set _ _ (2) _ _ _ _ scdrops_by.nd rfl (Or.inl rfl) (@pe_ix _ _ _ _ _ _ _ ix_tup (@pv _ 0 _ _ rfl (by walk_at "o") (by decide) (by decide)) (@pe_int _ _ _ _) (fun _ _ => rfl)) (by walk_at "g") (by walk_at "f")) (@pss_cons _ _ _ _ _ (@ps_set _ _ (3) _ _ _ _ scdrops_by.nd rfl (Or.inl rfl) (@pe_ix _ _ _ _ _ _ _ ix_tup (@pv _ 0 _ _ rfl (by walk_at "o") (by decide) (by decide)) (@pe_int _ _ _ _) (fun _ _ => rfl)) (by walk_at "g") (by walk_at "f")) (@pss_cons _ _ _ _ _ (@ps_if _ _ _ _ _ _ _ _ (@pt_cmpR _ _ _ _ _ _ _ _ op_eq (@pv _ 3 _ _ rfl (by walk_at "o") (by decide) (by decide)) (@pe_int _ _ _ _) (nomark _)) (@pss_one _ _ _ (@ps_ret _ _ _ _ (@pe_int _ _ _ _))) (@pss_nil _)) (@pss_one _ _ _ (@ps_ret _ _ _ _ (@pe_op _ _ _ _ _ _ _ _ op_fdiv (@pe_op _ _ _ _ _ _ _ _ op_mul (@pv _ 2 _ _ rfl (by walk_at "o") (by decide) (by decide)) (@pv _ 1 _ _ rfl (by walk_at "o") (by decide) (by decide))) (@pv _ 3 _ _ rfl (by walk_at "o") (by decide) (by decide)))))))), ?_⟩
  walk_at "rd"
  exact q
/-! ### parts -/
noncomputable abbrev Part := DayM.Part
noncomputable def q3 (q : Part) : List V := [.int q.1, .int q.2.1, .int q.2.2]
noncomputable def lst (ps : List Part) : Nat → Int
  | 0 => 0
  | i + 1 => (ps.getD i DayM.nil3).1 + 1
noncomputable def PGood (ticks least : Int) (q : Part) : Prop := (least ≤ q.1 ∧ q.1 ≤ ticks - 1) ∧ (0 ≤ q.2.1 ∧ q.2.1 ≤ 1000000) ∧ (1 ≤ q.2.2 ∧ q.2.2 ≤ 1000000)
noncomputable def Bd (n : Int) : Prop := -1000000000000000000 < n ∧ n < 1000000000000000000
noncomputable def BdP (q : Part) : Prop := Bd q.1 ∧ Bd q.2.1 ∧ Bd q.2.2
structure Tups (K : PySem.W.Frag) (H : Hp) (rs : List Addr) (ps : List Part) : Prop where
  len : rs.length = ps.length
  at_ : ∀ i r, rs[i]? = some r → SqT K H r (q3 (ps.getD i DayM.nil3))
theorem Tups.same {H H' : Hp} {rs : List Addr} {ps : List Part} (t : Tups K H rs ps) (s : Same H H') : Tups K H' rs ps := ⟨t.len, fun i r e => s.tup (t.at_ i r e)⟩
theorem Tups.upd {H : Hp} {rs : List Addr} {ps : List Part} {b : Addr} {u o : HO} (t : Tups K H rs ps) (e : H b = some u) (hu : Mut (some u)) : Tups K (L2.upd H b o) rs ps := ⟨t.len, fun i r z => (t.at_ i r z).upd e hu⟩
noncomputable def spCP (K : PySem.W.Frag) (CB : Addr) : Sp := fun vs H Q E => ∃ (ticks least : Int) (r : Addr) (q : Part), vs = [.int ticks, .int least, .ref r] ∧ SqT K H r (q3 q) ∧ Bd ticks ∧ Bd least ∧ BdP q ∧
  (PGood ticks least q → Q .non H) ∧ (¬ PGood ticks least q → E (.ref CB) none H)
structure ZC (mg : Str → Option Value) : Prop where
  MOST_DROPS_rates : ∃ t, mg "MOST_DROPS_rates" = some (.int 1000000 t)
  MOST_TICKS : ∃ t, mg "MOST_TICKS" = some (.int 1000000 t)
  len : mg "len" = none
  zip : mg "zip" = none
  tuple : mg "tuple" = none
structure ZD (K : PySem.W.Frag) (mg : Str → Option Value) (CB : Addr) : Prop extends ZCB K mg CB, ZC mg
theorem sccheck_part : FnScope ["ticks", "least", "part"] ["ticks", "least", "part"] (defScope s_check_part) := ⟨rfl, rfl, rfl, by decide +kernel, rfl, by decide +kernel, by decide +kernel⟩
theorem ok_check_part {f f1 CB : Addr} {fd fd1 : FuncData} (F : Fun K "check_part" "check_part" s_check_part f fd) (Z : ZC mg) (B_check_between : Fn P w K mg base (CXE P w) 1 "check_between" ["what", "number", "least", "most"] (spCB CB) f1 fd1) : FnOk P w K mg base (CXE P w) 2 f fd ["ticks", "least", "part"] (spCP K CB) := by
  refine F.okX sccheck_part (fun vs H Q E h => ?_) (fun cdv A outer s H vs Q E hr h => ?_)
  · obtain ⟨ticks, least, r, ⟨a, d, p⟩, rfl, _⟩ := h
    rfl
  obtain ⟨ticks, least, r, ⟨a, d, p⟩, rfl, hT, ht, hl, ⟨ha, hd, hp⟩, q, e⟩ := h
  have hT : SqT K H r [.int a, .int d, .int p] := hT
  unfold Bd at ht hl ha hd hp
  unfold PGood at q e
  dsimp only at ha hd hp q e
  refine ⟨_, (@pss_cons _ _ _ _ _ (@ps_expr _ _ _ _ (@pe_call _ _ _ _ _ _ _ _ _ _ _ _ _ _ _ _ B_check_between.ok (Room.mono hr (by decide)) rfl B_check_between.m B_check_between.kp B_check_between.b .nil (passes_fn own_cxOf) (@pa_cons _ _ _ _ _ (@pe_str _ _ _ _) (@pa_cons _ _ _ _ _ (@pe_ix _ _ _ _ _ _ _ ix_tup (@pv _ 2 _ _ rfl (by walk_at "o") (by decide) (by decide)) (@pe_int _ _ _ _) (fun _ _ => rfl)) (@pa_cons _ _ _ _ _ (@pv _ 1 _ _ rfl (by walk_at "o") (by decide) (by decide)) (@pa_cons _ _ _ _ _ (@pe_op _ _ _ _ _ _ _ _ op_sub (@pv _ 0 _ _ rfl (by walk_at "o") (by decide) (by decide)) (@pe_int _ _ _ _)) (@pa_nil _) (by walk_at "g")) (by walk_at "g")) (by walk_at "g")) (by walk_at "g")) (by decide) (by walk_at "g") rfl) (by walk_at "g")) (@pss_cons _ _ _ _ _ (@ps_expr _ _ _ _ (@pe_call _ _ _ _ _ _ _ _ _ _ _ _ _ _ _ _ B_check_between.ok (Room.mono hr (by decide)) rfl B_check_between.m B_check_between.kp B_check_between.b .nil (passes_fn own_cxOf) (@pa_cons _ _ _ _ _ (@pe_str _ _ _ _) (@pa_cons _ _ _ _ _ (@pe_ix _ _ _ _ _ _ _ ix_tup (@pv _ 2 _ _ rfl (by walk_at "o") (by decide) (by decide)) (@pe_int _ _ _ _) (fun _ _ => rfl)) (@pa_cons _ _ _ _ _ (@pe_int _ _ _ _) (@pa_cons _ _ _ _ _ (@pe_globI _ _ (1000000) _ rfl Z.MOST_DROPS_rates (by decide)) (@pa_nil _) (by walk_at "g")) (by walk_at "g")) (by walk_at "g")) (by walk_at "g")) (by decide) (by walk_at "g") rfl) (by walk_at "g")) (@pss_one _ _ _ (@ps_expr _ _ _ _ (@pe_call _ _ _ _ _ _ _ _ _ _ _ _ _ _ _ _ B_check_between.ok (Room.mono hr (by decide)) rfl B_check_between.m B_check_between.kp B_check_between.b .nil (passes_fn own_cxOf) (@pa_cons _ _ _ _ _ (@pe_str _ _ _ _) (@pa_cons _ _ _ _ _ (@pe_ix _ _ _ _ _ _ _ ix_tup (@pv _ 2 _ _ rfl (by walk_at "o") (by decide) (by decide)) (@pe_int _ _ _ _) (fun _ _ => rfl)) (@pa_cons _ _ _ _ _ (@pe_int _ _ _ _) (@pa_cons _ _ _ _ _ (@pe_globI _ _ (1000000) _ rfl Z.MOST_TICKS (by decide)) (@pa_nil _) (by walk_at "g")) (by walk_at "g")) (by walk_at "g")) (by walk_at "g")) (by decide) (by walk_at "g") rfl) (by walk_at "g"))))), ?_⟩
  walk_at "rd"
  walk_at "cb"
  · walk_at "rd"
    walk_at "cb"
    · walk_at "rd"
      walk_at "cb"
      · walk_at "rd"
        exact q (by omega)
      · exact e (by omega)
    · exact e (by omega)
  · exact e (by omega)
/-! ### days -/
structure PartsL (K : PySem.W.Frag) (H : Hp) (a : Addr) (rs : List Addr) (ps : List Part) : Prop where
  sq : SqL K H a (rs.map V.ref)
  tp : Tups K H rs ps
structure PartsT (K : PySem.W.Frag) (H : Hp) (a : Addr) (rs : List Addr) (ps : List Part) : Prop where
  sq : SqT K H a (rs.map V.ref)
  tp : Tups K H rs ps
noncomputable def spCD (K : PySem.W.Frag) (CB : Addr) : Sp := fun vs H Q E => ∃ (ticks : Int) (a : Addr) (rs : List Addr) (ps : List Part), vs = [.int ticks, .ref a] ∧ PartsL K H a rs ps ∧ Bd ticks ∧ (∀ q ∈ ps, BdP q) ∧
  (DayM.Ok ticks ps → Q .non H) ∧ (¬ DayM.Ok ticks ps → E (.ref CB) none H)
theorem good_of_ok {ticks : Int} {ps : List Part} (o : DayM.Ok ticks ps) {i : Nat} (hi : i < ps.length) : PGood ticks (lst ps i) (ps.getD i DayM.nil3) := by
  have h := o.b i hi
  refine ⟨⟨?_, by omega⟩, by omega, by omega⟩
  cases i with
  | zero => show (0 : Int) ≤ _; rw [o.z]; exact Int.le_refl 0
  | succ i =>
    have := o.up i hi
    show (ps.getD i DayM.nil3).1 + 1 ≤ _
    omega
theorem ok_of_good {ticks : Int} {ps : List Part} (ht : 1 ≤ ticks ∧ ticks ≤ 1000000) (hn : 0 < ps.length) (hz : (ps.getD 0 DayM.nil3).1 = 0) (h : ∀ i, i < ps.length → PGood ticks (lst ps i) (ps.getD i DayM.nil3)) : DayM.Ok ticks ps := by
  refine ⟨ht.1, ht.2, hn, hz, fun i hi => ?_, fun i hi => ?_⟩
  · have h1 := (h (i + 1) hi).1.1
    have h2 : lst ps (i + 1) = (ps.getD i DayM.nil3).1 + 1 := rfl
    omega
  · obtain ⟨h1, h2, h3⟩ := h i hi
    omega
theorem getRef {rs : List Addr} {i : Nat} {x : V} (h : (rs.map V.ref)[i]? = some x) : ∃ r, x = .ref r ∧ rs[i]? = some r ∧ i < rs.length := by
  rw [List.getElem?_map] at h
  cases e : rs[i]? with
  | none => rw [e] at h; cases h
  | some r => rw [e] at h; exact ⟨r, (Option.some.inj h).symm, rfl, (List.getElem?_eq_some_iff.mp e).1⟩
theorem getD_mem' {ps : List Part} {i : Nat} (h : i < ps.length) : ps.getD i DayM.nil3 ∈ ps := by
  rw [List.getD_eq_getElem?_getD, List.getElem?_eq_getElem h]
  exact List.getElem_mem h
theorem sccheck_day : FnScope ["ticks", "parts", "least", "part"] ["ticks", "parts"] (defScope s_check_day) := ⟨rfl, rfl, rfl, by decide +kernel, rfl, by decide +kernel, by decide +kernel⟩
theorem ok_check_day {f f1 f2 CB : Addr} {fd fd1 fd2 : FuncData} (F : Fun K "check_day" "check_day" s_check_day f fd) (Z : ZD K mg CB) (B_check_between : Fn P w K mg base (CXE P w) 1 "check_between" ["what", "number", "least", "most"] (spCB CB) f1 fd1)
    (B_check_part : Fn P w K mg base (CXE P w) 2 "check_part" ["ticks", "least", "part"] (spCP K CB) f2 fd2) : FnOk P w K mg base (CXE P w) 3 f fd ["ticks", "parts"] (spCD K CB) := by
  refine F.okX sccheck_day (fun vs H Q E h => ?_) (fun cdv A outer s H vs Q E hr h => ?_)
  · obtain ⟨ticks, a, rs, ps, rfl, _⟩ := h
    rfl
  obtain ⟨ticks, a, rs, ps, rfl, ⟨hS, hT⟩, ht, hb, q, e⟩ := h
  unfold Bd at ht
  have hlen := hT.len
  refine ⟨_, (@pss_cons _ _ _ _ _ (@ps_expr _ _ _ _ (@pe_call _ _ _ _ _ _ _ _ _ _ _ _ _ _ _ _ B_check_between.ok (Room.mono hr (by decide)) rfl B_check_between.m B_check_between.kp B_check_between.b .nil (passes_fn own_cxOf) (@pa_cons _ _ _ _ _ (@pe_str _ _ _ _) (@pa_cons _ _ _ _ _ (@pv _ 0 _ _ rfl (by walk_at "o") (by decide) (by decide)) (@pa_cons _ _ _ _ _ (@pe_int _ _ _ _) (@pa_cons _ _ _ _ _ (@pe_globI _ _ (1000000) _ rfl Z.MOST_TICKS (by decide)) (@pa_nil _) (by walk_at "g")) (by walk_at "g")) (by walk_at "g")) (by walk_at "g")) (by decide) (by walk_at "g") rfl) (by walk_at "g")) (@pss_cons _ _ _ _ _ (@ps_if _ _ _ _ _ _ _ _ (@pt_cmpR _ _ _ _ _ _ _ _ op_eq (@pe_callB _ _ _ _ _ _ _ _ _ call_len_seq rfl Z.len (by decide +kernel) (@pa_cons _ _ _ _ _ (@pv _ 1 _ _ rfl (by walk_at "o") (by decide) (by decide)) (@pa_nil _) (by walk_at "g")) (by decide) (by decide) (by walk_at "g") rfl) (@pe_int _ _ _ _) (nomark _)) (@pss_one _ _ _ (@ps_raise _ _ _ _ _ _ _ _ _ _ (raises_fn own_cxOf) rfl Z.xBadSetting rfl Z.BadSetting (@pa_cons _ _ _ _ _ (@pe_str _ _ _ _) (@pa_nil _) (by walk_at "g")) (by walk_at "g") rfl (by decide))) (@pss_nil _)) (@pss_cons _ _ _ _ _ (@ps_if _ _ _ _ _ _ _ _ (@pt_cmpR _ _ _ _ _ _ _ _ op_ne (@pe_ix _ _ _ _ _ _ _ ix_tup (@pe_ix _ _ _ _ _ _ _ ix_list (@pv _ 1 _ _ rfl (by walk_at "o") (by decide) (by decide)) (@pe_int _ _ _ _) (fun _ _ => rfl)) (@pe_int _ _ _ _) (fun _ _ => rfl)) (@pe_int _ _ _ _) (nomark _)) (@pss_one _ _ _ (@ps_raise _ _ _ _ _ _ _ _ _ _ (raises_fn own_cxOf) rfl Z.xBadSetting rfl Z.BadSetting (@pa_cons _ _ _ _ _ (@pe_str _ _ _ _) (@pa_nil _) (by walk_at "g")) (by walk_at "g") rfl (by decide))) (@pss_nil _)) (@pss_cons _ _ _ _ _ (@ps_set _ _ (2) _ _ _ _ sccheck_day.nd rfl (Or.inl rfl) (@pe_int _ _ _ _) (by walk_at "g") (by walk_at "f")) (@pss_one _ _ _ (@ps_for _ _ _ _ _ _ _ _ (passesOwn_fn own_cxOf) rfl (@pi_list _ _ _ _ (@pv _ 1 _ _ rfl (by walk_at "o") (by decide) (by decide))) (@pg_name _ _ (3) _ sccheck_day.nd rfl (Or.inl rfl) (by walk_at "f")) (@pss_cons _ _ _ _ _ (@ps_expr _ _ _ _ (@pe_call _ _ _ _ _ _ _ _ _ _ _ _ _ _ _ _ B_check_part.ok (Room.mono hr (by decide)) rfl B_check_part.m B_check_part.kp B_check_part.b .nil (passes_fn own_cxOf) (@pa_cons _ _ _ _ _ (@pv _ 0 _ _ rfl (by walk_at "o") (by decide) (by decide)) (@pa_cons _ _ _ _ _ (@pv _ 2 _ _ rfl (by walk_at "o") (by decide) (by decide)) (@pa_cons _ _ _ _ _ (@pv _ 3 _ _ rfl (by walk_at "o") (by decide) (by decide)) (@pa_nil _) (by walk_at "g")) (by walk_at "g")) (by walk_at "g")) (by decide) (by walk_at "g") rfl) (by walk_at "g")) (@pss_one _ _ _ (@ps_set _ _ (2) _ _ _ _ sccheck_day.nd rfl (Or.inl rfl) (@pe_op _ _ _ _ _ _ _ _ op_add (@pe_ix _ _ _ _ _ _ _ ix_tup (@pv _ 3 _ _ rfl (by walk_at "o") (by decide) (by decide)) (@pe_int _ _ _ _) (fun _ _ => rfl)) (@pe_int _ _ _ _)) (by walk_at "g") (by walk_at "f")))) (by walk_at "g"))))))), ?_⟩
  walk_at "rd"
  walk_at "cb"
  · walk_at "rd"
    refine it2 (fun h0 => ?_) (fun h0 => ?_)
    · have h0 := V.intInj h0
      rw [List.length_map] at h0
      walk_at "rd"
      exact e fun o => by have := o.ne; omega
    have h0 : 0 < rs.length := by
      rw [List.length_map] at h0
      have h1 : (rs.length : Int) ≠ 0 := fun z => h0 (intEq z)
      omega
    obtain ⟨r0, er0⟩ : ∃ r0, rs[0]? = some r0 := ⟨rs[0], List.getElem?_eq_getElem h0⟩
    have hr0 := hT.at_ 0 r0 er0
    have ha0 : atI (rs.map V.ref) 0 = some (.ref r0) := atI_nat (j := 0) (by rw [List.getElem?_map, er0]; rfl)
    walk_at "rd"
    refine nt2 (fun hz => ?_) (fun hz => ?_)
    · walk_at "rd"
      exact e fun o => hz (intEq o.z)
    have hz := V.intInj hz
    walk_at "rd"
    refine for_list (xs := rs.map V.ref) (fun i σ H2 => H2 = H ∧ ∃ v3, σ = [some (.int ticks), some (.ref a), some (.int (lst ps i)), v3] ∧ ∀ j, j < i → PGood ticks (lst ps j) (ps.getD j DayM.nil3)) ?_ ?_ ?_ ?_
    · exact ⟨rfl, none, rfl, fun j hj => absurd hj (Nat.not_lt_zero j)⟩
    · rintro i σ H2 _ ⟨rfl, _⟩
      exact hS
    · rintro i x σ H2 hx ⟨rfl, v3, rfl, hall⟩
      obtain ⟨r, rfl, er, hi⟩ := getRef hx
      have hTr := hT.at_ i r er
      have hmem := hb _ (getD_mem' (i := i) (by omega))
      have hlst : Bd (lst ps i) := by
        cases i with
        | zero => exact ⟨by show (-1000000000000000000 : Int) < 0; decide, by show (0 : Int) < 1000000000000000000; decide⟩
        | succ i =>
          have h1 := hall i (Nat.lt_succ_self i)
          show Bd ((ps.getD i DayM.nil3).1 + 1)
          have h2 := (hb _ (getD_mem' (i := i) (by omega))).1
          have h3 := h1.1.2
          unfold Bd at h2 ⊢
          omega
      walk_at "rd"
      refine ⟨ticks, lst ps i, r, ps.getD i DayM.nil3, rfl, hTr, ht, hlst, hmem, fun hg => ?_, fun hg => ?_⟩
      · walk_at "rd"
        intro j hj
        rcases Nat.lt_succ_iff_lt_or_eq.mp hj with z | z
        · exact hall j z
        · rw [z]; exact hg
      · exact e fun o => hg (good_of_ok o (by omega))
    · rintro σ H2 ⟨rfl, v3, rfl, hall⟩
      rw [List.length_map] at hall
      exact q (ok_of_good (by omega) (by omega) hz fun i hi => hall i (by omega))
  · exact e fun o => by have := o.t1; have := o.t2; omega
noncomputable def spDW (K : PySem.W.Frag) : Sp := fun vs H Q _ => ∃ (r : Addr) (q : Part) (t : Int), vs = [.ref r, .int t] ∧ SqT K H r (q3 q) ∧ (0 ≤ q.2.1 ∧ q.2.1 ≤ 1000000) ∧ (1 ≤ q.2.2 ∧ q.2.2 ≤ 1000000) ∧ ∀ H', Same H H' → Q (.int (DayM.dw q t)) H'
theorem scdrops_within : FnScope ["part", "tick"] ["part", "tick"] (defScope s_drops_within) := ⟨rfl, rfl, rfl, by decide +kernel, rfl, by decide +kernel, by decide +kernel⟩
theorem ok_drops_within {f f1 : Addr} {fd fd1 : FuncData} (F : Fun K "drops_within" "drops_within" s_drops_within f fd) (B_drops_by : Fn P w K mg base CX0 1 "drops_by" ["rate", "ticks"] (spBy K) f1 fd1) : FnOk P w K mg base CX0 2 f fd ["part", "tick"] (spDW K) := by
  refine F.ok scdrops_within (fun vs H Q E h => ?_) (fun cdv A outer s H vs Q E hr h => ?_)
  · obtain ⟨r, ⟨a, d, p⟩, t, rfl, _⟩ := h
    rfl
  obtain ⟨r, ⟨a, d, p⟩, t, rfl, hT, hd, hp, q⟩ := h
  have hT : SqT K H r [.int a, .int d, .int p] := hT
  dsimp only at hd hp
  refine ⟨_, (@pss_one _ _ _ (@ps_ret _ _ _ _ (@pe_call _ _ _ _ _ _ _ _ _ _ _ _ _ _ _ _ B_drops_by.ok (Room.mono hr (by decide)) rfl B_drops_by.m B_drops_by.kp B_drops_by.b .nil pass0 (@pa_cons _ _ _ _ _ (@pe_tup _ _ _ _ _ (@pa_cons _ _ _ _ _ (@pe_ix _ _ _ _ _ _ _ ix_tup (@pv _ 0 _ _ rfl (by walk_at "o") (by decide) (by decide)) (@pe_int _ _ _ _) (fun _ _ => rfl)) (@pa_cons _ _ _ _ _ (@pe_ix _ _ _ _ _ _ _ ix_tup (@pv _ 0 _ _ rfl (by walk_at "o") (by decide) (by decide)) (@pe_int _ _ _ _) (fun _ _ => rfl)) (@pa_nil _) (by walk_at "g")) (by walk_at "g"))) (@pa_cons _ _ _ _ _ (@pe_op _ _ _ _ _ _ _ _ op_sub (@pv _ 1 _ _ rfl (by walk_at "o") (by decide) (by decide)) (@pe_ix _ _ _ _ _ _ _ ix_tup (@pv _ 0 _ _ rfl (by walk_at "o") (by decide) (by decide)) (@pe_int _ _ _ _) (fun _ _ => rfl))) (@pa_nil _) (by walk_at "g")) (by walk_at "g")) (by decide) (by walk_at "g") rfl))), ?_⟩
  walk_at "rd"
  intro p1 n1
  have s1 := Same.new n1 (.tup [.int d, .int p])
  walk_at "rd"
  refine ⟨p1, d, p, _, rfl, SqT.of upd_same, hd, hp, ?_⟩
  exact q _ s1
/-! ### the place of a part -/
end
end Sp

set_option Elab.async false
set_option linter.all false
set_option maxRecDepth 100000
set_option maxHeartbeats 4000000


namespace Sp
open PySem L2
section
variable {P : Program} {w : World} {K : PySem.W.Frag} {mg : Str → Option Value} {base : Heap}
theorem cut_from {xs : List V} {k : Nat} : cutV xs (some (k : Int)) none = xs.drop k := by
  unfold cutV
  rw [HT.sIx_nat, HT.sIx_none]
  by_cases h : k ≤ xs.length
  · rw [Nat.min_eq_left h, List.take_of_length_le (by rw [List.length_drop]; omega)]
  · rw [Nat.min_eq_right (by omega), List.drop_eq_nil_of_le (Nat.le_refl _), List.drop_eq_nil_of_le (by omega), List.take_nil]
noncomputable def sumsV (ticks : Int) (ps : List Part) (n : Nat) : List V := (List.range (n + 1)).map fun j => V.int (DayM.sumAt ticks ps j)
theorem sumsV_len {ticks : Int} {ps : List Part} {n : Nat} : (sumsV ticks ps n).length = n + 1 := by unfold sumsV; simp
theorem sumsV_at {ticks : Int} {ps : List Part} {n j : Nat} (h : j ≤ n) : (sumsV ticks ps n)[j]? = some (.int (DayM.sumAt ticks ps j)) := by
  unfold sumsV
  rw [List.getElem?_map, List.getElem?_range (by omega)]
  rfl
theorem sumsV_succ {ticks : Int} {ps : List Part} {n : Nat} : sumsV ticks ps (n + 1) = sumsV ticks ps n ++ [.int (DayM.sumAt ticks ps n + DayM.dw (ps.getD n DayM.nil3) (DayM.endOf ticks ps n))] := by
  unfold sumsV
  rw [List.range_succ, List.map_append]
  rfl
noncomputable def endsV (ticks : Int) (ps : List Part) : List V := ((ps.drop 1).map fun q => V.int q.1) ++ [.int ticks]
theorem endsV_len {ticks : Int} {ps : List Part} (h : 0 < ps.length) : (endsV ticks ps).length = ps.length := by
  unfold endsV
  rw [List.length_append, List.length_map, List.length_drop]
  simp
  omega
theorem endsV_at {ticks : Int} {ps : List Part} {i : Nat} (h : i < ps.length) : (endsV ticks ps)[i]? = some (.int (DayM.endOf ticks ps i)) := by
  unfold endsV DayM.endOf
  by_cases hi : i + 1 < ps.length
  · rw [if_pos hi, List.getElem?_append_left (by rw [List.length_map, List.length_drop]; omega), List.getElem?_map, List.getElem?_drop, Nat.add_comm 1 i, List.getElem?_eq_getElem hi, List.getD_eq_getElem?_getD, List.getElem?_eq_getElem hi]
    rfl
  · rw [if_neg hi, List.getElem?_append_right (by rw [List.length_map, List.length_drop]; omega), List.length_map, List.length_drop, show i - (ps.length - 1) = 0 by omega]
    rfl
noncomputable def spSA (K : PySem.W.Frag) : Sp := fun vs H Q _ => ∃ (ticks : Int) (a : Addr) (rs : List Addr) (ps : List Part), vs = [.int ticks, .ref a] ∧ PartsL K H a rs ps ∧ DayM.Ok ticks ps ∧ ps.length ≤ 100 ∧
  ∀ (l : Addr) (H' : Hp), Same H H' → H l = none → H' l = some (.lst (sumsV ticks ps ps.length)) → Q (.ref l) H'
theorem scsums_ahead : FnScope ["ticks", "parts", "ends", "sums", "part", "end"] ["ticks", "parts"] (defScope s_sums_ahead) := ⟨rfl, rfl, rfl, by decide +kernel, rfl, by decide +kernel, by decide +kernel⟩
theorem ok_sums_ahead {f f1 : Addr} {fd fd1 : FuncData} (F : Fun K "sums_ahead" "sums_ahead" s_sums_ahead f fd) (Z : ZC mg) (B_drops_within : Fn P w K mg base CX0 2 "drops_within" ["part", "tick"] (spDW K) f1 fd1) : FnOk P w K mg base CX0 3 f fd ["ticks", "parts"] (spSA K) := by
  refine F.ok scsums_ahead (fun vs H Q E h => ?_) (fun cdv A outer s H vs Q E hr h => ?_)
  · obtain ⟨ticks, a, rs, ps, rfl, _⟩ := h
    rfl
  obtain ⟨ticks, a, rs, ps, rfl, ⟨hS, hT⟩, o, h100, q⟩ := h
  have hlen := hT.len
  have hne := o.ne
  refine ⟨_, (@pss_cons _ _ _ _ _ (@ps_set _ _ (2) _ _ _ _ scsums_ahead.nd rfl (Or.inl rfl) (@pe_op _ _ _ _ _ _ _ _ op_cat (@pe_comp _ _ _ _ _ _ (defScope s_sums_ahead) _ (["ticks", "parts", "ends", "sums", "part", "end"]) (["ticks", "parts", "ends", "sums", "", "end", "part"]) (["part"]) _ _ _ _ _ rfl rfl rfl (.of (by decide +kernel)) (@pi_list _ _ _ _ (@pe_slice _ _ _ _ _ _ _ _ _ _ sl_list (@pv _ 1 _ _ rfl (by walk_at "o") (by decide) (by decide)) (@po_some _ _ _ (@pe_int _ _ _ _)) (@po_none _))) takes_name (fun _ _ _ _ _ => @pg_name _ _ (6) _ (show List.Nodup (["ticks", "parts", "ends", "sums", "", "end", "part"] : List Str) by decide +kernel) rfl (Or.inl rfl) (by walk_at "f")) (fun _ _ _ _ _ => @pif_nil _) (fun _ _ _ _ _ => (@pe_ix _ _ _ _ _ _ _ (ix_tupK (K := K) rfl) (@pv _ 6 _ _ rfl (by walk_at "o") (by decide) (by decide)) (@pe_int _ _ _ _) (fun _ _ => rfl))) (by walk_at "g")) (@pe_lst _ _ _ _ (@pa_cons _ _ _ _ _ (@pv _ 0 _ _ rfl (by walk_at "o") (by decide) (by decide)) (@pa_nil _) (by walk_at "g")))) (by walk_at "g") (by walk_at "f")) (@pss_cons _ _ _ _ _ (@ps_set _ _ (3) _ _ _ _ scsums_ahead.nd rfl (Or.inl rfl) (@pe_lst _ _ _ _ (@pa_cons _ _ _ _ _ (@pe_int _ _ _ _) (@pa_nil _) (by walk_at "g"))) (by walk_at "g") (by walk_at "f")) (@pss_cons _ _ _ _ _ (@ps_for _ _ _ _ _ _ _ _ PassesOwn.never rfl (@pi_zip2 _ _ _ _ _ _ _ _ _ rfl Z.zip (@pa_cons _ _ _ _ _ (@pv _ 1 _ _ rfl (by walk_at "o") (by decide) (by decide)) (@pa_cons _ _ _ _ _ (@pv _ 2 _ _ rfl (by walk_at "o") (by decide) (by decide)) (@pa_nil _) (by walk_at "g")) (by walk_at "g")) (by walk_at "g") (by walk_at "g")) (@pg_tup _ _ _ _ _ _ rfl (@pgs_cons _ _ _ _ _ (@pg_name _ _ (4) _ scsums_ahead.nd rfl (Or.inl rfl) (by walk_at "f")) (@pgs_cons _ _ _ _ _ (@pg_name _ _ (5) _ scsums_ahead.nd rfl (Or.inl rfl) (by walk_at "f")) (@pgs_nil _) (by walk_at "g")) (by walk_at "g")) (by rfl) (by rfl)) (@pss_one _ _ _ (@ps_expr _ _ _ _ (@pe_bm _ _ _ _ _ _ _ _ _ _ _ _ PySem.F.plainAttrs_list PySem.F.slot_list_append PySem.F.type_list_append mt_append (@pv _ 3 _ _ rfl (by walk_at "o") (by decide) (by decide)) (@pa_cons _ _ _ _ _ (@pe_op _ _ _ _ _ _ _ _ op_add (@pe_ix _ _ _ _ _ _ _ ix_list (@pv _ 3 _ _ rfl (by walk_at "o") (by decide) (by decide)) (@pe_op _ _ _ _ _ _ _ _ op_sub (@pe_callB _ _ _ _ _ _ _ _ _ call_len_seq rfl Z.len (by decide +kernel) (@pa_cons _ _ _ _ _ (@pv _ 3 _ _ rfl (by walk_at "o") (by decide) (by decide)) (@pa_nil _) (by walk_at "g")) (by decide) (by decide) (by walk_at "g") rfl) (@pe_int _ _ _ _)) (fun _ _ => rfl)) (@pe_call _ _ _ _ _ _ _ _ _ _ _ _ _ _ _ _ B_drops_within.ok (Room.mono hr (by decide)) rfl B_drops_within.m B_drops_within.kp B_drops_within.b .nil pass0 (@pa_cons _ _ _ _ _ (@pv _ 4 _ _ rfl (by walk_at "o") (by decide) (by decide)) (@pa_cons _ _ _ _ _ (@pv _ 5 _ _ rfl (by walk_at "o") (by decide) (by decide)) (@pa_nil _) (by walk_at "g")) (by walk_at "g")) (by decide) (by walk_at "g") rfl)) (@pa_nil _) (by walk_at "g")) (by walk_at "g") (by walk_at "g") (by walk_at "g") (by walk_at "g") (by walk_at "g")) (by walk_at "g"))) (by walk_at "g")) (@pss_one _ _ _ (@ps_ret _ _ _ _ (@pv _ 3 _ _ rfl (by walk_at "o") (by decide) (by decide))))))), ?_⟩
  walk_at "rd"
  intro p1 n1
  have e1 : cutV (rs.map V.ref) (some 1) none = (rs.map V.ref).drop 1 := cut_from (k := 1)
  rw [e1]
  have s1 := Same.new n1 (.lst ((rs.map V.ref).drop 1))
  have h1 : (upd H p1 (.lst ((rs.map V.ref).drop 1))) p1 = some (.lst ((rs.map V.ref).drop 1)) := upd_same
  generalize upd H p1 (.lst ((rs.map V.ref).drop 1)) = H1 at s1 h1 ⊢
  walk_at "rd"
  intro acc n2
  refine comp_list (xs := (rs.map V.ref).drop 1) (fun i ys H2 => ys = (((ps.drop 1).take i).map fun q => V.int q.1) ∧ Same H1 H2 ∧ H2 acc = some (.lst ys)) ?_ ?_ ?_ ?_
  · exact ⟨rfl, Same.new n2 _, upd_same⟩
  · rintro i ys H2 _ ⟨_, s2, _⟩
    exact SqL.of (s2 _ _ h1)
  · rintro i x ys H2 hi hx ⟨rfl, s2, hacc⟩
    rw [List.getElem?_drop] at hx
    obtain ⟨r, rfl, er, hlt⟩ := getRef hx
    have hTr := hT.at_ (1 + i) r er
    walk_at "rd"
    refine ⟨small1000 (by rw [List.length_map, List.length_take]; omega), cstep hi ⟨?_, s2.mut n2, upd_same⟩⟩
    rw [List.take_succ, List.map_append, List.getElem?_drop, List.getElem?_eq_getElem (show 1 + i < ps.length by omega), List.getD_eq_getElem?_getD, List.getElem?_eq_getElem (show 1 + i < ps.length by omega)]
    rfl
  · rintro ys H2 ⟨rfl, s2, hacc⟩
    rw [List.take_of_length_le (by rw [List.length_drop, List.length_drop, List.length_map]; omega)] at hacc
    walk_at "rd"
    intro p2 n3
    refine ⟨acc, p2, _, _, rfl, rfl, (by walk_at "hp"), upd_same, (by rw [List.length_map, List.length_drop]; exact Nat.le_of_lt (small1000 (by simp; omega))), fun e n4 => ?_⟩
    have s3 : Same H1 (upd (upd H2 p2 (.lst [.int ticks])) e (.lst (endsV ticks ps))) := (s2.trans (Same.new n3 _)).trans (Same.new n4 _)
    have h3 : (upd (upd H2 p2 (.lst [.int ticks])) e (.lst (endsV ticks ps))) e = some (.lst (endsV ticks ps)) := upd_same
    show tSeq _ _ _ _ (upd (upd H2 p2 (.lst [.int ticks])) e (.lst (endsV ticks ps)))
    generalize upd (upd H2 p2 (.lst [.int ticks])) e (.lst (endsV ticks ps)) = H3 at s3 h3 ⊢
    have s4 := s1.trans s3
    walk_at "rd"
    intro l n5
    refine ⟨_, rfl, _, rfl, a, e, rfl, ⟨_, (by walk_at "sl")⟩, ⟨_, (by walk_at "sl")⟩, ?_⟩
    refine for_zip (xs := rs.map V.ref) (ys := endsV ticks ps) (fun i σ H4 => ∃ v4 v5, σ = [some (.int ticks), some (.ref a), some (.ref e), some (.ref l), v4, v5] ∧ Same H3 H4 ∧ H4 l = some (.lst (sumsV ticks ps i))) ?_ ?_ ?_ ?_ ?_
    · exact ⟨none, none, rfl, Same.new n5 _, upd_same⟩
    · rintro i σ H4 _ ⟨_, _, _, s5, _⟩
      exact ⟨s5.seq (s4.seq hS), SqL.of (s5 _ _ h3)⟩
    · rw [List.length_map, endsV_len hne]; exact hlen
    · rintro i x y T σ H4 hx hy ⟨v4, v5, rfl, s5, hl⟩ nT
      obtain ⟨r, rfl, er, hlt⟩ := getRef hx
      rw [endsV_at (by omega)] at hy
      cases hy
      have hTr := s5.tup (s4.tup (hT.at_ i r er))
      have hat : atI (sumsV ticks ps i) (((sumsV ticks ps i).length : Int) - 1) = some (.int (DayM.sumAt ticks ps i)) := by
        rw [sumsV_len, show (((i + 1 : Nat) : Int) - 1) = (i : Int) by omega]
        exact atI_nat (sumsV_at (Nat.le_refl i))
      have hb := o.b i (by omega)
      walk_at "rd"
      refine ⟨r, ps.getD i DayM.nil3, _, rfl, (by walk_at "st"), by omega, by omega, fun H5 s6 => ?_⟩
      walk_at "rd"
      refine ⟨(by rw [sumsV_len]; exact small1000 (by omega)), ?_⟩
      refine ⟨_, _, rfl, ((s5.trans (Same.new nT _)).trans s6).mut n5, ?_⟩
      rw [upd_same, sumsV_succ]
    · rintro σ H4 ⟨v4, v5, rfl, s5, hl⟩
      rw [List.length_map, hlen] at hl
      walk_at "rd"
      exact q l H4 (s4.trans s5) (s4.free n5) hl
end
end Sp

set_option Elab.async false
set_option linter.all false
set_option maxRecDepth 100000
set_option maxHeartbeats 4000000


namespace Sp
open PySem L2
structure DF where
  ticks : V
  parts : V
  sums : V
noncomputable def dayF (r : DF) : List (Str × V) := [("ticks", r.ticks), ("parts", r.parts), ("sums", r.sums)]
structure TD (K : PySem.W.Frag) (C : Addr) : Prop where
  cl : Cls K C
  n_ticks : NoAttr K C "ticks"
  n_parts : NoAttr K C "parts"
  n_sums : NoAttr K C "sums"
structure DayAt (K : PySem.W.Frag) (C : Addr) (H : Hp) (x : Addr) (ticks : Int) (ps : List Part) : Prop where
  ex : ∃ dx pt sm rs, H x = some (.ins C dx (dayF ⟨.int ticks, .ref pt, .ref sm⟩)) ∧ PartsT K H pt rs ps ∧ SqT K H sm (sumsV ticks ps ps.length)
section
variable {P : Program} {w : World} {K : PySem.W.Frag} {mg : Str → Option Value} {base : Heap}
theorem DayAt.same {C x : Addr} {H H' : Hp} {ticks : Int} {ps : List Part} (d : DayAt K C H x ticks ps) (s : Same H H') : DayAt K C H' x ticks ps := by
  obtain ⟨dx, pt, sm, rs, h1, ⟨h2, h3⟩, h4⟩ := d.ex
  exact ⟨dx, pt, sm, rs, s _ _ h1, ⟨s.tup h2, h3.same s⟩, s.tup h4⟩
theorem DayAt.upd {C x b : Addr} {H : Hp} {ticks : Int} {ps : List Part} {u o : HO} (d : DayAt K C H x ticks ps) (e : H b = some u) (hu : Mut (some u)) (ne : x ≠ b) : DayAt K C (L2.upd H b o) x ticks ps := by
  obtain ⟨dx, pt, sm, rs, h1, ⟨h2, h3⟩, h4⟩ := d.ex
  exact ⟨dx, pt, sm, rs, at_ne ne h1, ⟨h2.upd e hu, h3.upd e hu⟩, h4.upd e hu⟩
noncomputable def spDayI (K : PySem.W.Frag) (C CB : Addr) : Sp := fun vs H Q E => ∃ (x dx : Addr) (ticks : Int) (a : Addr) (rs : List Addr) (ps : List Part), vs = [.ref x, .int ticks, .ref a] ∧ H x = some (.ins C dx []) ∧ H a = some (.lst (rs.map V.ref)) ∧ Tups K H rs ps ∧
  Bd ticks ∧ (∀ q ∈ ps, BdP q) ∧ ps.length ≤ 100 ∧ (DayM.Ok ticks ps → ∀ H', (∀ b o, b ≠ x → H b = some o → H' b = some o) → DayAt K C H' x ticks ps → Q .non H') ∧ (¬ DayM.Ok ticks ps → E (.ref CB) none H)
theorem scDay_init : FnScope ["self", "ticks", "parts"] ["self", "ticks", "parts"] (defScope s_Day_init) := ⟨rfl, rfl, rfl, by decide +kernel, rfl, by decide +kernel, by decide +kernel⟩
theorem ok_Day_init {f f1 f2 C CB : Addr} {fd fd1 fd2 : FuncData} (F : Fun K "__init__" "Day.__init__" s_Day_init f fd) (TDay : TD K C) (Z : ZC mg) (B_check_day : Fn P w K mg base (CXE P w) 3 "check_day" ["ticks", "parts"] (spCD K CB) f1 fd1)
    (B_sums_ahead : Fn P w K mg base CX0 3 "sums_ahead" ["ticks", "parts"] (spSA K) f2 fd2) : FnOk P w K mg base (CXE P w) 4 f fd ["self", "ticks", "parts"] (spDayI K C CB) := by
  refine F.okX scDay_init (fun vs H Q E h => ?_) (fun cdv A outer s H vs Q E hr h => ?_)
  · obtain ⟨x, dx, ticks, a, rs, ps, rfl, _⟩ := h
    rfl
  obtain ⟨x, dx, ticks, a, rs, ps, rfl, hx, ha, hT, ht, hb, h100, q, e⟩ := h
  have hS : SqL K H a (rs.map V.ref) := SqL.of ha
  have nax : a ≠ x := ne_of ha hx (by intro z; cases z)
  refine ⟨_, (@pss_cons _ _ _ _ _ (@ps_expr _ _ _ _ (@pe_call _ _ _ _ _ _ _ _ _ _ _ _ _ _ _ _ B_check_day.ok (Room.mono hr (by decide)) rfl B_check_day.m B_check_day.kp B_check_day.b .nil (passes_fn own_cxOf) (@pa_cons _ _ _ _ _ (@pv _ 1 _ _ rfl (by walk_at "o") (by decide) (by decide)) (@pa_cons _ _ _ _ _ (@pv _ 2 _ _ rfl (by walk_at "o") (by decide) (by decide)) (@pa_nil _) (by walk_at "g")) (by walk_at "g")) (by decide) (by walk_at "g") rfl) (by walk_at "g")) (@pss_cons _ _ _ _ _ (@ps_fldC _ _ _ _ _ _ _ _ _ TDay.cl TDay.n_ticks (@pv _ 0 _ _ rfl (by walk_at "o") (by decide) (by decide)) (@pv _ 1 _ _ rfl (by walk_at "o") (by decide) (by decide)) (by walk_at "g")) (@pss_cons _ _ _ _ _ (@ps_fldC _ _ _ _ _ _ _ _ _ TDay.cl TDay.n_parts (@pv _ 0 _ _ rfl (by walk_at "o") (by decide) (by decide)) (@pe_callTy _ _ _ _ _ _ _ _ _ call_tuple_of rfl Z.tuple (by decide +kernel) (@pa_cons _ _ _ _ _ (@pv _ 2 _ _ rfl (by walk_at "o") (by decide) (by decide)) (@pa_nil _) (by walk_at "g")) (by decide) (by decide) (by walk_at "g") rfl) (by walk_at "g")) (@pss_one _ _ _ (@ps_fldC _ _ _ _ _ _ _ _ _ TDay.cl TDay.n_sums (@pv _ 0 _ _ rfl (by walk_at "o") (by decide) (by decide)) (@pe_callTy _ _ _ _ _ _ _ _ _ call_tuple_of rfl Z.tuple (by decide +kernel) (@pa_cons _ _ _ _ _ (@pe_call _ _ _ _ _ _ _ _ _ _ _ _ _ _ _ _ B_sums_ahead.ok (Room.mono hr (by decide)) rfl B_sums_ahead.m B_sums_ahead.kp B_sums_ahead.b .nil pass0 (@pa_cons _ _ _ _ _ (@pv _ 1 _ _ rfl (by walk_at "o") (by decide) (by decide)) (@pa_cons _ _ _ _ _ (@pv _ 2 _ _ rfl (by walk_at "o") (by decide) (by decide)) (@pa_nil _) (by walk_at "g")) (by walk_at "g")) (by decide) (by walk_at "g") rfl) (@pa_nil _) (by walk_at "g")) (by decide) (by decide) (by walk_at "g") rfl) (by walk_at "g")))))), ?_⟩
  walk_at "rd"
  refine ⟨ticks, a, rs, ps, rfl, ⟨hS, hT⟩, ht, hb, fun o => ?_, e⟩
  have q := q o
  walk_at "rd"
  refine ⟨a, _, rfl, .inl ⟨(by walk_at "sl"), fun t n1 => ?_⟩⟩
  have nxt : x ≠ t := ne_of_none upd_same n1
  have ntx := nxt.symm
  walk_at "rd"
  refine ⟨ticks, a, rs, ps, rfl, ⟨(by walk_at "sl"), ?_⟩, o, h100, fun l H4 s4 n4 h4 => ?_⟩
  · exact ((hT.upd (o := .ins C dx [("ticks", .int ticks)]) hx True.intro).same (Same.new n1 _)).upd (at_new n1 upd_same) True.intro
  walk_at "rd"
  refine ⟨l, _, rfl, .inl ⟨(by walk_at "sl"), fun t2 n5 => ?_⟩⟩
  walk_at "rd"
  have nx2 : x ≠ t2 := ne_of_none (s4 _ _ upd_same) n5
  refine q _ (fun b o hb e => (by walk_at "hp")) ⟨dx, t, t2, rs, upd_same, ⟨?_, ?_⟩, ?_⟩
  · walk_at "st"
  · refine Tups.upd (u := .ins C dx [("ticks", .int ticks), ("parts", .ref t)]) ?_ (at_new n5 (s4 _ _ upd_same)) True.intro
    exact ((((hT.upd (o := .ins C dx [("ticks", .int ticks)]) hx True.intro).same (Same.new n1 _)).upd (at_new n1 upd_same) True.intro).same s4).same (Same.new n5 _)
  · have n2x := nx2.symm
    walk_at "st"
end
end Sp

set_option Elab.async false
set_option linter.all false
set_option maxRecDepth 100000
set_option maxHeartbeats 4000000


namespace Sp
open PySem L2
section
variable {P : Program} {w : World} {K : PySem.W.Frag} {mg : Str → Option Value} {base : Heap}
/-! ### the law's draws -/
noncomputable def cellv (ns : List Int) (k : Int) : Int := if ns.isEmpty then 0 else ns.getD (k % (ns.length : Int)).toNat 0
noncomputable def mixv (ns : List Int) (k : Int) : Int :=
  ((((cellv ns k + 104729 * (k + 1)) % 4294967291) * 48271 % 4294967279) / 64 * 69621 + ((cellv ns k + 104729 * (k + 1)) % 4294967291) * 48271 % 4294967279) % 4294967231
noncomputable def spCell (K : PySem.W.Frag) : Sp := fun vs H Q _ => ∃ (a : Addr) (ns : List Int) (k : Int), vs = [.ref a, .int k] ∧ SqL K H a (ns.map V.int) ∧ ns.length ≤ 63 ∧ 0 ≤ k ∧ Q (.int (cellv ns k)) H
noncomputable def spMix (K : PySem.W.Frag) : Sp := fun vs H Q _ => ∃ (a : Addr) (ns : List Int) (k : Int), vs = [.ref a, .int k] ∧ SqL K H a (ns.map V.int) ∧ ns.length ≤ 63 ∧ 0 ≤ k ∧ Q (.int (mixv ns k)) H
noncomputable def spWhole : Sp := fun vs H Q _ => ∃ i : Int, vs = [.int i] ∧ Q (.bl true) H
structure ZL (mg : Str → Option Value) : Prop where
  len : mg "len" = none
  range : mg "range" = none
  max : mg "max" = none
  isinstance : mg "isinstance" = none
  int : mg "int" = none
  bool : mg "bool" = none
  str : mg "str" = none
  list : mg "list" = none
  tuple : mg "tuple" = none
  sum : mg "sum" = none
  all : mg "all" = none
theorem scLcell : FnScope ["_law_script", "_law_k"] ["_law_script", "_law_k"] (defScope s_Lcell) := ⟨rfl, rfl, rfl, by decide +kernel, rfl, by decide +kernel, by decide +kernel⟩
theorem ok_Lcell {f : Addr} {fd : FuncData} (F : Fun K "_law_cell" "_law_cell" s_Lcell f fd) (Z : ZL mg) : FnOk P w K mg base CX0 1 f fd ["_law_script", "_law_k"] (spCell K) := by
  refine F.ok scLcell (fun vs H Q E h => ?_) (fun cdv A outer s H vs Q E hr h => ?_)
  · obtain ⟨a, ns, k, rfl, _⟩ := h
    rfl
  obtain ⟨a, ns, k, rfl, hS, h63, k0, q⟩ := h
  refine ⟨_, (@pss_cons _ _ _ _ _ (@ps_if _ _ _ _ _ _ _ _ (@pt_truth _ _ _ (@pv _ 0 _ _ rfl (by walk_at "o") (by decide) (by decide)) (fun _ => rfl)) (@pss_one _ _ _ (@ps_ret _ _ _ _ (@pe_ix _ _ _ _ _ _ _ ix_list (@pv _ 0 _ _ rfl (by walk_at "o") (by decide) (by decide)) (@pe_op _ _ _ _ _ _ _ _ op_mod (@pv _ 1 _ _ rfl (by walk_at "o") (by decide) (by decide)) (@pe_callB _ _ _ _ _ _ _ _ _ call_len_seq rfl Z.len (by decide +kernel) (@pa_cons _ _ _ _ _ (@pv _ 0 _ _ rfl (by walk_at "o") (by decide) (by decide)) (@pa_nil _) (by walk_at "g")) (by decide) (by decide) (by walk_at "g") rfl)) (fun _ _ => rfl)))) (@pss_nil _)) (@pss_one _ _ _ (@ps_ret _ _ _ _ (@pe_int _ _ _ _)))), ?_⟩
  refine ⟨_, rfl, _, .inl ⟨_, hS, rfl⟩, ?_⟩
  cases ns with
  | nil => exact iteF q
  | cons n r =>
    refine iteT ?_
    have hl : ((n :: r).map V.int).length = (n :: r).length := List.length_map _
    have hp : (0 : Int) < ((n :: r).length : Nat) := by rw [List.length_cons]; omega
    have m0 := Int.emod_nonneg k (Int.ne_of_gt hp)
    have m1 := Int.emod_lt_of_pos k hp
    refine ⟨_, rfl, _, rfl, _, rfl, a, _, rfl, .inl hS, _, _, rfl, rfl, (by show (0 : Int) < (((n :: r).map V.int).length : Nat); rw [hl]; exact hp), ?_⟩
    refine ⟨a, _, _, .int (cellv (n :: r) k), rfl, rfl, hS, ?_, q⟩
    rw [hl]
    have e : k % ((n :: r).length : Int) = (((k % ((n :: r).length : Int)).toNat : Nat) : Int) := by omega
    rw [e]
    refine atI_nat ?_
    rw [List.getElem?_map]
    have hk : (k % ((n :: r).length : Int)).toNat < (n :: r).length := by omega
    rw [List.getElem?_eq_getElem hk]
    show some (V.int _) = some (V.int _)
    unfold cellv
    rw [if_neg (by simp), List.getD_eq_getElem?_getD, List.getElem?_eq_getElem hk]
    rfl
theorem scLmix : FnScope ["_law_script", "_law_k", "_law_number_here"] ["_law_script", "_law_k"] (defScope s_Lmix) := ⟨rfl, rfl, rfl, by decide +kernel, rfl, by decide +kernel, by decide +kernel⟩
theorem ok_Lmix {f fc : Addr} {fd fdc : FuncData} (F : Fun K "_law_mix" "_law_mix" s_Lmix f fd) (B_Lcell : Fn P w K mg base CX0 1 "_law_cell" ["_law_script", "_law_k"] (spCell K) fc fdc) : FnOk P w K mg base CX0 2 f fd ["_law_script", "_law_k"] (spMix K) := by
  refine F.ok scLmix (fun vs H Q E h => ?_) (fun cdv A outer s H vs Q E hr h => ?_)
  · obtain ⟨a, ns, k, rfl, _⟩ := h
    rfl
  obtain ⟨a, ns, k, rfl, hS, h63, k0, q⟩ := h
  refine ⟨_, (@pss_cons _ _ _ _ _ (@ps_set _ _ (2) _ _ _ _ scLmix.nd rfl (Or.inl rfl) (@pe_op _ _ _ _ _ _ _ _ op_mod (@pe_op _ _ _ _ _ _ _ _ op_add (@pe_call _ _ _ _ _ _ _ _ _ _ _ _ _ _ _ _ B_Lcell.ok (Room.mono hr (by decide)) rfl B_Lcell.m B_Lcell.kp B_Lcell.b .nil pass0 (@pa_cons _ _ _ _ _ (@pv _ 0 _ _ rfl (by walk_at "o") (by decide) (by decide)) (@pa_cons _ _ _ _ _ (@pv _ 1 _ _ rfl (by walk_at "o") (by decide) (by decide)) (@pa_nil _) (by walk_at "g")) (by walk_at "g")) (by decide) (by walk_at "g") rfl) (@pe_op _ _ _ _ _ _ _ _ op_mul (@pe_int _ _ _ _) (@pe_op _ _ _ _ _ _ _ _ op_add (@pv _ 1 _ _ rfl (by walk_at "o") (by decide) (by decide)) (@pe_int _ _ _ _)))) (@pe_int _ _ _ _)) (by walk_at "g") (by walk_at "f")) (@pss_cons _ _ _ _ _ (@ps_set _ _ (2) _ _ _ _ scLmix.nd rfl (Or.inl rfl) (@pe_op _ _ _ _ _ _ _ _ op_mod (@pe_op _ _ _ _ _ _ _ _ op_mul (@pv _ 2 _ _ rfl (by walk_at "o") (by decide) (by decide)) (@pe_int _ _ _ _)) (@pe_int _ _ _ _)) (by walk_at "g") (by walk_at "f")) (@pss_one _ _ _ (@ps_ret _ _ _ _ (@pe_op _ _ _ _ _ _ _ _ op_mod (@pe_op _ _ _ _ _ _ _ _ op_add (@pe_op _ _ _ _ _ _ _ _ op_mul (@pe_op _ _ _ _ _ _ _ _ op_fdiv (@pv _ 2 _ _ rfl (by walk_at "o") (by decide) (by decide)) (@pe_int _ _ _ _)) (@pe_int _ _ _ _)) (@pv _ 2 _ _ rfl (by walk_at "o") (by decide) (by decide))) (@pe_int _ _ _ _)))))), ?_⟩
  walk_at "rd"
  exact q
theorem scLwhole : FnScope ["_law_found"] ["_law_found"] (defScope s_Lwhole) := ⟨rfl, rfl, rfl, by decide +kernel, rfl, by decide +kernel, by decide +kernel⟩
theorem ok_Lwhole {f : Addr} {fd : FuncData} (F : Fun K "_law_whole" "_law_whole" s_Lwhole f fd) (Z : ZL mg) (kb : PySem.W.kitOne K (.type "int") (.type "bool") = some false) : FnOk P w K mg base CX0 1 f fd ["_law_found"] spWhole := by
  refine F.ok scLwhole (fun vs H Q E h => ?_) (fun cdv A outer s H vs Q E hr h => ?_)
  · obtain ⟨i, rfl, _⟩ := h
    rfl
  obtain ⟨i, rfl, q⟩ := h
  refine ⟨_, (@pss_one _ _ _ (@ps_ret _ _ _ _ (@pe_and _ _ _ _ _ _ _ (@pe_callB _ _ _ _ _ _ _ _ _ call_isT rfl Z.isinstance (by decide +kernel) (@pa_cons _ _ _ _ _ (@pv _ 0 _ _ rfl (by walk_at "o") (by decide) (by decide)) (@pa_cons _ _ _ _ _ (@pe_bltn _ _ (.ty "int") _ _ rfl Z.int (by decide +kernel) rfl (by decide) (by decide)) (@pa_nil _) (by walk_at "g")) (by walk_at "g")) (by decide) (by decide) (by walk_at "g") rfl) (@pe_one _ _ _ _ _ (@pe_not _ _ _ _ (@pe_callB _ _ _ _ _ _ _ _ _ call_isT rfl Z.isinstance (by decide +kernel) (@pa_cons _ _ _ _ _ (@pv _ 0 _ _ rfl (by walk_at "o") (by decide) (by decide)) (@pa_cons _ _ _ _ _ (@pe_bltn _ _ (.ty "bool") _ _ rfl Z.bool (by decide +kernel) rfl (by decide) (by decide)) (@pa_nil _) (by walk_at "g")) (by walk_at "g")) (by decide) (by decide) (by walk_at "g") rfl)))))), ?_⟩
  refine ⟨_, rfl, .int i, "int", _, true, rfl, .int i, (by unfold PySem.W.kitOne; rw [if_pos (by decide)]), true, rfl, ?_⟩
  refine iteT ?_
  exact ⟨_, rfl, .int i, "bool", _, false, rfl, .int i, kb, false, rfl, q⟩
end
end Sp

set_option Elab.async false
set_option linter.all false
set_option maxRecDepth 100000
set_option maxHeartbeats 4000000


namespace Sp
open PySem L2
section
variable {P : Program} {w : World} {K : PySem.W.Frag} {mg : Str → Option Value} {base : Heap}
/-! ### rules -/
noncomputable abbrev Rule := Int × Int
noncomputable def r2 (q : Rule) : List V := [.int q.1, .int q.2]
structure RT (K : PySem.W.Frag) (H : Hp) (rs : List Addr) (ps : List Rule) : Prop where
  len : rs.length = ps.length
  at_ : ∀ i r, rs[i]? = some r → SqT K H r (r2 (ps.getD i (0, 0)))
theorem RT.same {H H' : Hp} {rs : List Addr} {ps : List Rule} (t : RT K H rs ps) (s : Same H H') : RT K H' rs ps := ⟨t.len, fun i r e => s.tup (t.at_ i r e)⟩
theorem RT.upd {H : Hp} {rs : List Addr} {ps : List Rule} {b : Addr} {u o : HO} (t : RT K H rs ps) (e : H b = some u) (hu : Mut (some u)) : RT K (L2.upd H b o) rs ps := ⟨t.len, fun i r z => (t.at_ i r z).upd e hu⟩
noncomputable def RGood1 (r : Rule) : Prop := (1 ≤ r.1 ∧ r.1 ≤ 1000) ∧ (0 ≤ r.2 ∧ r.2 ≤ 1000000)
structure RGood (rules : List Rule) : Prop where
  ln : 1 ≤ rules.length ∧ rules.length ≤ 4
  al : ∀ i, i < rules.length → RGood1 (rules.getD i (0, 0))
structure ZR (K : PySem.W.Frag) (mg : Str → Option Value) : Prop where
  MOST_RULES : ∃ t, mg "MOST_RULES" = some (.int 4 t)
  LONGEST_WINDOW : ∃ t, mg "LONGEST_WINDOW" = some (.int 1000 t)
  MOST_DROPS_limits : ∃ t, mg "MOST_DROPS_limits" = some (.int 1000000 t)
  MOST : ∃ t, mg "MOST" = some (.int 1000000 t)
  len : mg "len" = none
  list : mg "list" = none
  max : mg "max" = none
  min : mg "min" = none
  sum : mg "sum" = none
theorem getDr {ps : List Rule} {i : Nat} (h : i < ps.length) : ps.getD i (0, 0) ∈ ps ∧ ps[i]? = some (ps.getD i (0, 0)) := by
  rw [List.getD_eq_getElem?_getD, List.getElem?_eq_getElem h]
  exact ⟨List.getElem_mem h, rfl⟩
noncomputable def spCR (K : PySem.W.Frag) (CB : Addr) : Sp := fun vs H Q E => ∃ (a : Addr) (rs : List Addr) (rules : List Rule), vs = [.ref a] ∧ SqL K H a (rs.map V.ref) ∧ RT K H rs rules ∧ (∀ r ∈ rules, Bd r.1 ∧ Bd r.2) ∧ rules.length ≤ 100 ∧
  (RGood rules → ∀ l H', Same H H' → H l = none → H' l = some (.lst (rs.map V.ref)) → Q (.ref l) H') ∧ (¬ RGood rules → E (.ref CB) none H)
theorem scchecked_rules : FnScope ["rules", "rule"] ["rules"] (defScope s_checked_rules) := ⟨rfl, rfl, rfl, by decide +kernel, rfl, by decide +kernel, by decide +kernel⟩
theorem ok_checked_rules {f f1 CB : Addr} {fd fd1 : FuncData} (F : Fun K "checked_rules" "checked_rules" s_checked_rules f fd) (Z : ZR K mg) (B_check_between : Fn P w K mg base (CXE P w) 1 "check_between" ["what", "number", "least", "most"] (spCB CB) f1 fd1) : FnOk P w K mg base (CXE P w) 2 f fd ["rules"] (spCR K CB) := by
  refine F.okX scchecked_rules (fun vs H Q E h => ?_) (fun cdv A outer s H vs Q E hr h => ?_)
  · obtain ⟨a, rs, rules, rfl, _⟩ := h
    rfl
  obtain ⟨a, rs, rules, rfl, hS, hT, hb, h100, q, e⟩ := h
  have hlen := hT.len
  have hml : (rs.map V.ref).length = rules.length := by rw [List.length_map]; exact hlen
  refine ⟨_, (@pss_cons _ _ _ _ _ (@ps_expr _ _ _ _ (@pe_call _ _ _ _ _ _ _ _ _ _ _ _ _ _ _ _ B_check_between.ok (Room.mono hr (by decide)) rfl B_check_between.m B_check_between.kp B_check_between.b .nil (passes_fn own_cxOf) (@pa_cons _ _ _ _ _ (@pe_str _ _ _ _) (@pa_cons _ _ _ _ _ (@pe_callB _ _ _ _ _ _ _ _ _ call_len_seq rfl Z.len (by decide +kernel) (@pa_cons _ _ _ _ _ (@pv _ 0 _ _ rfl (by walk_at "o") (by decide) (by decide)) (@pa_nil _) (by walk_at "g")) (by decide) (by decide) (by walk_at "g") rfl) (@pa_cons _ _ _ _ _ (@pe_int _ _ _ _) (@pa_cons _ _ _ _ _ (@pe_globI _ _ (4) _ rfl Z.MOST_RULES (by decide)) (@pa_nil _) (by walk_at "g")) (by walk_at "g")) (by walk_at "g")) (by walk_at "g")) (by decide) (by walk_at "g") rfl) (by walk_at "g")) (@pss_cons _ _ _ _ _ (@ps_for _ _ _ _ _ _ _ _ (passesOwn_fn own_cxOf) rfl (@pi_list _ _ _ _ (@pv _ 0 _ _ rfl (by walk_at "o") (by decide) (by decide))) (@pg_name _ _ (1) _ scchecked_rules.nd rfl (Or.inl rfl) (by walk_at "f")) (@pss_cons _ _ _ _ _ (@ps_expr _ _ _ _ (@pe_call _ _ _ _ _ _ _ _ _ _ _ _ _ _ _ _ B_check_between.ok (Room.mono hr (by decide)) rfl B_check_between.m B_check_between.kp B_check_between.b .nil (passes_fn own_cxOf) (@pa_cons _ _ _ _ _ (@pe_str _ _ _ _) (@pa_cons _ _ _ _ _ (@pe_ix _ _ _ _ _ _ _ ix_tup (@pv _ 1 _ _ rfl (by walk_at "o") (by decide) (by decide)) (@pe_int _ _ _ _) (fun _ _ => rfl)) (@pa_cons _ _ _ _ _ (@pe_int _ _ _ _) (@pa_cons _ _ _ _ _ (@pe_globI _ _ (1000) _ rfl Z.LONGEST_WINDOW (by decide)) (@pa_nil _) (by walk_at "g")) (by walk_at "g")) (by walk_at "g")) (by walk_at "g")) (by decide) (by walk_at "g") rfl) (by walk_at "g")) (@pss_one _ _ _ (@ps_expr _ _ _ _ (@pe_call _ _ _ _ _ _ _ _ _ _ _ _ _ _ _ _ B_check_between.ok (Room.mono hr (by decide)) rfl B_check_between.m B_check_between.kp B_check_between.b .nil (passes_fn own_cxOf) (@pa_cons _ _ _ _ _ (@pe_str _ _ _ _) (@pa_cons _ _ _ _ _ (@pe_ix _ _ _ _ _ _ _ ix_tup (@pv _ 1 _ _ rfl (by walk_at "o") (by decide) (by decide)) (@pe_int _ _ _ _) (fun _ _ => rfl)) (@pa_cons _ _ _ _ _ (@pe_int _ _ _ _) (@pa_cons _ _ _ _ _ (@pe_globI _ _ (1000000) _ rfl Z.MOST_DROPS_limits (by decide)) (@pa_nil _) (by walk_at "g")) (by walk_at "g")) (by walk_at "g")) (by walk_at "g")) (by decide) (by walk_at "g") rfl) (by walk_at "g")))) (by walk_at "g")) (@pss_one _ _ _ (@ps_ret _ _ _ _ (@pe_callTy _ _ _ _ _ _ _ _ _ call_list_of rfl Z.list (by decide +kernel) (@pa_cons _ _ _ _ _ (@pv _ 0 _ _ rfl (by walk_at "o") (by decide) (by decide)) (@pa_nil _) (by walk_at "g")) (by decide) (by decide) (by walk_at "g") rfl))))), ?_⟩
  walk_at "rd"
  walk_at "cb"
  · walk_at "rd"
    refine for_list (xs := rs.map V.ref) (fun i σ H2 => H2 = H ∧ ∃ v1, σ = [some (.ref a), v1] ∧ ∀ j, j < i → RGood1 (rules.getD j (0, 0))) ?_ ?_ ?_ ?_
    · exact ⟨rfl, none, rfl, fun j hj => absurd hj (Nat.not_lt_zero j)⟩
    · rintro i σ H2 _ ⟨rfl, _⟩
      exact hS
    · rintro i x σ H2 hx ⟨rfl, v1, rfl, hall⟩
      obtain ⟨r, rfl, er, hi⟩ := getRef hx
      have hTr := hT.at_ i r er
      obtain ⟨b1, b2⟩ := hb _ (getDr (ps := rules) (i := i) (by omega)).1
      unfold Bd at b1 b2
      walk_at "rd"
      walk_at "cb"
      · walk_at "rd"
        walk_at "cb"
        · walk_at "rd"
          intro j hj
          rcases Nat.lt_succ_iff_lt_or_eq.mp hj with z | z
          · exact hall j z
          · rw [z]; exact ⟨by omega, by omega⟩
        · rename_i hn
          exact e fun g => hn (g.al i (by omega)).2
      · rename_i hn
        exact e fun g => hn (g.al i (by omega)).1
    · rintro σ H2 ⟨rfl, v1, rfl, hall⟩
      rw [List.length_map] at hall
      walk_at "rd"
      intro l n1
      exact q ⟨by omega, fun i hi => hall i (by omega)⟩ l _ (Same.new n1 _) n1 upd_same
  · exact e fun g => by have := g.ln; omega
noncomputable def spLW (K : PySem.W.Frag) : Sp := fun vs H Q _ => ∃ (a : Addr) (rs : List Addr) (rules : List Rule), vs = [.ref a] ∧ SqL K H a (rs.map V.ref) ∧ RT K H rs rules ∧ 0 < rules.length ∧ rules.length ≤ 100 ∧ ∀ H', Same H H' → Q (.int (Sd.longest rules)) H'
theorem sclongest_window : FnScope ["rules"] ["rules"] (defScope s_longest_window) := ⟨rfl, rfl, rfl, by decide +kernel, rfl, by decide +kernel, by decide +kernel⟩
theorem ok_longest_window {f : Addr} {fd : FuncData} (F : Fun K "longest_window" "longest_window" s_longest_window f fd) (Z : ZR K mg) : FnOk P w K mg base CX0 1 f fd ["rules"] (spLW K) := by
  refine F.ok sclongest_window (fun vs H Q E h => ?_) (fun cdv A outer s H vs Q E hr h => ?_)
  · obtain ⟨a, rs, rules, rfl, _⟩ := h
    rfl
  obtain ⟨a, rs, rules, rfl, hS, hT, h0, h100, q⟩ := h
  have hlen := hT.len
  refine ⟨_, (@pss_one _ _ _ (@ps_ret _ _ _ _ (@pe_callB _ _ _ _ _ _ _ _ _ (call_maxL rfl) rfl Z.max (by decide +kernel) (@pa_cons _ _ _ _ _ (@pe_comp _ _ _ _ _ _ (defScope s_longest_window) _ (["rules"]) (["rules", "rule"]) (["rule"]) _ _ _ _ _ rfl rfl rfl (.of (by decide +kernel)) (@pi_list _ _ _ _ (@pv _ 0 _ _ rfl (by walk_at "o") (by decide) (by decide))) takes_name (fun _ _ _ _ _ => @pg_name _ _ (1) _ (show List.Nodup (["rules", "rule"] : List Str) by decide +kernel) rfl (Or.inl rfl) (by walk_at "f")) (fun _ _ _ _ _ => @pif_nil _) (fun _ _ _ _ _ => (@pe_ix _ _ _ _ _ _ _ (ix_tupK (K := K) rfl) (@pv _ 1 _ _ rfl (by walk_at "o") (by decide) (by decide)) (@pe_int _ _ _ _) (fun _ _ => rfl))) (by walk_at "g")) (@pa_nil _) (by walk_at "g")) (by decide) (by decide) (by walk_at "g") rfl))), ?_⟩
  walk_at "rd"
  intro acc n1
  refine comp_list (xs := rs.map V.ref) (fun i ys H2 => ys = ((rules.take i).map (·.1)).map V.int ∧ Same H H2 ∧ H2 acc = some (.lst ys)) ?_ ?_ ?_ ?_
  · exact ⟨rfl, Same.new n1 _, upd_same⟩
  · rintro i ys H2 _ ⟨_, s2, _⟩
    exact s2.seq hS
  · rintro i x ys H2 hi hx ⟨rfl, s2, hacc⟩
    obtain ⟨r, rfl, er, hlt⟩ := getRef hx
    have hTr := hT.at_ i r er
    walk_at "rd"
    refine ⟨small1000 (by rw [List.length_map, List.length_map, List.length_take]; omega), cstep hi ⟨?_, s2.mut n1, upd_same⟩⟩
    rw [List.take_succ, List.map_append, List.map_append, (getDr (ps := rules) (i := i) (by omega)).2]
    rfl
  · rintro ys H2 ⟨rfl, s2, hacc⟩
    rw [List.take_of_length_le (by rw [List.length_map]; omega)] at hacc
    refine ⟨acc, rules.map (·.1), rfl, SqL.of hacc, by rw [List.length_map]; exact h0, fun M hM hMx => ?_⟩
    walk_at "rd"
    rw [Sd.maxL_uniq hM hMx]
    exact q H2 s2
end
end Sp

set_option Elab.async false
set_option linter.all false
set_option maxRecDepth 100000
set_option maxHeartbeats 4000000


namespace Sp
open PySem L2
structure PF where
  day : V
  rules : V
  lock : V
  dose : V
  hold : V
  now : V
  running : V
  content : V
  waiting : V
  asked : V
  missed : V
  total : V
  free : V
  sent : V
noncomputable def pumpF (r : PF) : List (Str × V) := [("day", r.day), ("rules", r.rules), ("lock", r.lock), ("dose", r.dose), ("hold", r.hold), ("now", r.now), ("running", r.running), ("content", r.content), ("waiting", r.waiting), ("asked", r.asked), ("missed", r.missed), ("total", r.total), ("free", r.free), ("sent", r.sent)]
theorem FPump_rules : Fld pumpF "rules" (·.rules) (fun r y => { r with rules := y }) := ⟨fun r => rfl, fun r y => rfl, fun r => by show 14 < 1000; decide⟩
theorem FPump_now : Fld pumpF "now" (·.now) (fun r y => { r with now := y }) := ⟨fun r => rfl, fun r y => rfl, fun r => by show 14 < 1000; decide⟩
theorem FPump_running : Fld pumpF "running" (·.running) (fun r y => { r with running := y }) := ⟨fun r => rfl, fun r y => rfl, fun r => by show 14 < 1000; decide⟩
theorem FPump_content : Fld pumpF "content" (·.content) (fun r y => { r with content := y }) := ⟨fun r => rfl, fun r y => rfl, fun r => by show 14 < 1000; decide⟩
theorem FPump_waiting : Fld pumpF "waiting" (·.waiting) (fun r y => { r with waiting := y }) := ⟨fun r => rfl, fun r y => rfl, fun r => by show 14 < 1000; decide⟩
theorem FPump_asked : Fld pumpF "asked" (·.asked) (fun r y => { r with asked := y }) := ⟨fun r => rfl, fun r y => rfl, fun r => by show 14 < 1000; decide⟩
theorem FPump_missed : Fld pumpF "missed" (·.missed) (fun r y => { r with missed := y }) := ⟨fun r => rfl, fun r y => rfl, fun r => by show 14 < 1000; decide⟩
theorem FPump_total : Fld pumpF "total" (·.total) (fun r y => { r with total := y }) := ⟨fun r => rfl, fun r y => rfl, fun r => by show 14 < 1000; decide⟩
theorem FPump_free : Fld pumpF "free" (·.free) (fun r y => { r with free := y }) := ⟨fun r => rfl, fun r y => rfl, fun r => by show 14 < 1000; decide⟩
theorem FPump_sent : Fld pumpF "sent" (·.sent) (fun r y => { r with sent := y }) := ⟨fun r => rfl, fun r y => rfl, fun r => by show 14 < 1000; decide⟩
structure TP (K : PySem.W.Frag) (C : Addr) : Prop where
  cl : Cls K C
  n_day : NoAttr K C "day"
  n_rules : NoAttr K C "rules"
  n_lock : NoAttr K C "lock"
  n_dose : NoAttr K C "dose"
  n_hold : NoAttr K C "hold"
  n_now : NoAttr K C "now"
  n_running : NoAttr K C "running"
  n_content : NoAttr K C "content"
  n_waiting : NoAttr K C "waiting"
  n_asked : NoAttr K C "asked"
  n_missed : NoAttr K C "missed"
  n_total : NoAttr K C "total"
  n_free : NoAttr K C "free"
  n_sent : NoAttr K C "sent"
structure Cf where
  ticks : Int
  ps : List Part
  rules : List Rule
  lock : Int
  dose : Int
  hold : Int
noncomputable def Cf.c (g : Cf) : Sd.C := { due := DayM.due g.ticks g.ps, rules := g.rules, lock := g.lock, dose := g.dose, hold := g.hold }
structure Cf.Ok (g : Cf) : Prop where
  d : DayM.Ok g.ticks g.ps
  r : RGood g.rules
  lk : 0 ≤ g.lock ∧ g.lock ≤ 1000000
  ds : 0 ≤ g.dose ∧ g.dose ≤ 1000000
  hd : 0 ≤ g.hold ∧ g.hold ≤ 1000000
noncomputable def pf (g : Cf) (s : Sd.S) (dy rl sn : Addr) : PF := ⟨.ref dy, .ref rl, .int g.lock, .int g.dose, .int g.hold, .int s.now, .bl s.run, .int s.con, .int s.wai, .int s.ask, .int s.mis, .int s.tot, .int s.fre, .ref sn⟩
structure PumpAt (K : PySem.W.Frag) (CP CD : Addr) (H : Hp) (p dx dy rl sn : Addr) (rs : List Addr) (g : Cf) (s : Sd.S) : Prop where
  ob : H p = some (.ins CP dx (pumpF (pf g s dy rl sn)))
  day : DayAt K CD H dy g.ticks g.ps
  rls : H rl = some (.lst (rs.map V.ref))
  rt : RT K H rs g.rules
  se : H sn = some (.lst (s.sent.map V.int))
  npd : p ≠ dy
  nrs : rl ≠ sn
noncomputable def But (p q : Addr) (H H' : Hp) : Prop := ∀ b o, b ≠ p → b ≠ q → H b = some o → H' b = some o
section
variable {P : Program} {w : World} {K : PySem.W.Frag} {mg : Str → Option Value} {base : Heap} {CP CD CB : Addr}
theorem PumpAt.same {H H' : Hp} {p dx dy rl sn : Addr} {rs : List Addr} {g : Cf} {s : Sd.S} (a : PumpAt K CP CD H p dx dy rl sn rs g s) (e : Same H H') : PumpAt K CP CD H' p dx dy rl sn rs g s :=
  ⟨e _ _ a.ob, a.day.same e, e _ _ a.rls, a.rt.same e, e _ _ a.se, a.npd, a.nrs⟩
theorem PumpAt.npr {H : Hp} {p dx dy rl sn : Addr} {rs : List Addr} {g : Cf} {s : Sd.S} (a : PumpAt K CP CD H p dx dy rl sn rs g s) : p ≠ rl ∧ p ≠ sn ∧ dy ≠ rl ∧ dy ≠ sn := by
  obtain ⟨dx', pt, sm, rs', h1, _, _⟩ := a.day.ex
  exact ⟨ne_of a.ob a.rls (by intro z; cases z), ne_of a.ob a.se (by intro z; cases z), ne_of h1 a.rls (by intro z; cases z), ne_of h1 a.se (by intro z; cases z)⟩
theorem But.trans {p q : Addr} {H H1 H2 : Hp} (a : But p q H H1) (b : But p q H1 H2) : But p q H H2 := fun c o h1 h2 e => b c o h1 h2 (a c o h1 h2 e)
/-! ### at first -/
noncomputable def s0 : Sd.S := { now := 0, run := false, con := 0, wai := 0, ask := 0, mis := 0, tot := 0, fre := 0, sent := [] }
noncomputable def spPumpI (K : PySem.W.Frag) (CP CD CB : Addr) : Sp := fun vs H Q E => ∃ (x dx dy a : Addr) (rs : List Addr) (g : Cf), vs = [.ref x, .ref dy, .ref a, .int g.lock, .int g.dose, .int g.hold] ∧ H x = some (.ins CP dx []) ∧ DayAt K CD H dy g.ticks g.ps ∧ x ≠ dy ∧
  H a = some (.lst (rs.map V.ref)) ∧ RT K H rs g.rules ∧ (∀ r ∈ g.rules, Bd r.1 ∧ Bd r.2) ∧ g.rules.length ≤ 100 ∧ DayM.Ok g.ticks g.ps ∧ Bd g.lock ∧ Bd g.dose ∧ Bd g.hold ∧
  (g.Ok → ∀ rl sn H', (∀ b o, b ≠ x → H b = some o → H' b = some o) → H rl = none → H sn = none → PumpAt K CP CD H' x dx dy rl sn rs g s0 → Q .non H') ∧ (¬ g.Ok → ∀ H', (∀ b o, b ≠ x → H b = some o → H' b = some o) → E (.ref CB) none H')
theorem scPump_init : FnScope ["self", "day", "rules", "lock", "dose", "hold"] ["self", "day", "rules", "lock", "dose", "hold"] (defScope s_Pump_init) := ⟨rfl, rfl, rfl, by decide +kernel, rfl, by decide +kernel, by decide +kernel⟩
theorem ok_Pump_init {f f1 f2 : Addr} {fd fd1 fd2 : FuncData} (F : Fun K "__init__" "Pump.__init__" s_Pump_init f fd) (TPump : TP K CP) (Z : ZR K mg) (B_check_between : Fn P w K mg base (CXE P w) 1 "check_between" ["what", "number", "least", "most"] (spCB CB) f1 fd1)
    (B_checked_rules : Fn P w K mg base (CXE P w) 2 "checked_rules" ["rules"] (spCR K CB) f2 fd2) : FnOk P w K mg base (CXE P w) 3 f fd ["self", "day", "rules", "lock", "dose", "hold"] (spPumpI K CP CD CB) := by
  refine F.okX scPump_init (fun vs H Q E h => ?_) (fun cdv A outer s H vs Q E hr h => ?_)
  · obtain ⟨x, dx, dy, a, rs, g, rfl, _⟩ := h
    rfl
  obtain ⟨x, dx, dy, a, rs, g, rfl, hx, D, nxd, ha, hT, hb, h100, od, b1, b2, b3, q, e⟩ := h
  have nax : a ≠ x := ne_of ha hx (by intro z; cases z)
  unfold Bd at b1 b2 b3
  have eH := fun no => e no H fun b o _ z => z
  refine ⟨_, (@pss_cons _ _ _ _ _ (@ps_expr _ _ _ _ (@pe_call _ _ _ _ _ _ _ _ _ _ _ _ _ _ _ _ B_check_between.ok (Room.mono hr (by decide)) rfl B_check_between.m B_check_between.kp B_check_between.b .nil (passes_fn own_cxOf) (@pa_cons _ _ _ _ _ (@pe_str _ _ _ _) (@pa_cons _ _ _ _ _ (@pv _ 3 _ _ rfl (by walk_at "o") (by decide) (by decide)) (@pa_cons _ _ _ _ _ (@pe_int _ _ _ _) (@pa_cons _ _ _ _ _ (@pe_globI _ _ (1000000) _ rfl Z.MOST (by decide)) (@pa_nil _) (by walk_at "g")) (by walk_at "g")) (by walk_at "g")) (by walk_at "g")) (by decide) (by walk_at "g") rfl) (by walk_at "g")) (@pss_cons _ _ _ _ _ (@ps_expr _ _ _ _ (@pe_call _ _ _ _ _ _ _ _ _ _ _ _ _ _ _ _ B_check_between.ok (Room.mono hr (by decide)) rfl B_check_between.m B_check_between.kp B_check_between.b .nil (passes_fn own_cxOf) (@pa_cons _ _ _ _ _ (@pe_str _ _ _ _) (@pa_cons _ _ _ _ _ (@pv _ 4 _ _ rfl (by walk_at "o") (by decide) (by decide)) (@pa_cons _ _ _ _ _ (@pe_int _ _ _ _) (@pa_cons _ _ _ _ _ (@pe_globI _ _ (1000000) _ rfl Z.MOST (by decide)) (@pa_nil _) (by walk_at "g")) (by walk_at "g")) (by walk_at "g")) (by walk_at "g")) (by decide) (by walk_at "g") rfl) (by walk_at "g")) (@pss_cons _ _ _ _ _ (@ps_expr _ _ _ _ (@pe_call _ _ _ _ _ _ _ _ _ _ _ _ _ _ _ _ B_check_between.ok (Room.mono hr (by decide)) rfl B_check_between.m B_check_between.kp B_check_between.b .nil (passes_fn own_cxOf) (@pa_cons _ _ _ _ _ (@pe_str _ _ _ _) (@pa_cons _ _ _ _ _ (@pv _ 5 _ _ rfl (by walk_at "o") (by decide) (by decide)) (@pa_cons _ _ _ _ _ (@pe_int _ _ _ _) (@pa_cons _ _ _ _ _ (@pe_globI _ _ (1000000) _ rfl Z.MOST (by decide)) (@pa_nil _) (by walk_at "g")) (by walk_at "g")) (by walk_at "g")) (by walk_at "g")) (by decide) (by walk_at "g") rfl) (by walk_at "g")) (@pss_cons _ _ _ _ _ (@ps_fldC _ _ _ _ _ _ _ _ _ TPump.cl TPump.n_day (@pv _ 0 _ _ rfl (by walk_at "o") (by decide) (by decide)) (@pv _ 1 _ _ rfl (by walk_at "o") (by decide) (by decide)) (by walk_at "g")) (@pss_cons _ _ _ _ _ (@ps_fldC _ _ _ _ _ _ _ _ _ TPump.cl TPump.n_rules (@pv _ 0 _ _ rfl (by walk_at "o") (by decide) (by decide)) (@pe_call _ _ _ _ _ _ _ _ _ _ _ _ _ _ _ _ B_checked_rules.ok (Room.mono hr (by decide)) rfl B_checked_rules.m B_checked_rules.kp B_checked_rules.b .nil (passes_fn own_cxOf) (@pa_cons _ _ _ _ _ (@pv _ 2 _ _ rfl (by walk_at "o") (by decide) (by decide)) (@pa_nil _) (by walk_at "g")) (by decide) (by walk_at "g") rfl) (by walk_at "g")) (@pss_cons _ _ _ _ _ (@ps_fldC _ _ _ _ _ _ _ _ _ TPump.cl TPump.n_lock (@pv _ 0 _ _ rfl (by walk_at "o") (by decide) (by decide)) (@pv _ 3 _ _ rfl (by walk_at "o") (by decide) (by decide)) (by walk_at "g")) (@pss_cons _ _ _ _ _ (@ps_fldC _ _ _ _ _ _ _ _ _ TPump.cl TPump.n_dose (@pv _ 0 _ _ rfl (by walk_at "o") (by decide) (by decide)) (@pv _ 4 _ _ rfl (by walk_at "o") (by decide) (by decide)) (by walk_at "g")) (@pss_cons _ _ _ _ _ (@ps_fldC _ _ _ _ _ _ _ _ _ TPump.cl TPump.n_hold (@pv _ 0 _ _ rfl (by walk_at "o") (by decide) (by decide)) (@pv _ 5 _ _ rfl (by walk_at "o") (by decide) (by decide)) (by walk_at "g")) (@pss_cons _ _ _ _ _ (@ps_fldC _ _ _ _ _ _ _ _ _ TPump.cl TPump.n_now (@pv _ 0 _ _ rfl (by walk_at "o") (by decide) (by decide)) (@pe_int _ _ _ _) (by walk_at "g")) (@pss_cons _ _ _ _ _ (@ps_fldC _ _ _ _ _ _ _ _ _ TPump.cl TPump.n_running (@pv _ 0 _ _ rfl (by walk_at "o") (by decide) (by decide)) (@pe_bl _ _ _ _) (by walk_at "g")) (@pss_cons _ _ _ _ _ (@ps_fldC _ _ _ _ _ _ _ _ _ TPump.cl TPump.n_content (@pv _ 0 _ _ rfl (by walk_at "o") (by decide) (by decide)) (@pe_int _ _ _ _) (by walk_at "g")) (@pss_cons _ _ _ _ _ (@ps_fldC _ _ _ _ _ _ _ _ _ TPump.cl TPump.n_waiting (@pv _ 0 _ _ rfl (by walk_at "o") (by decide) (by decide)) (@pe_int _ _ _ _) (by walk_at "g")) (@pss_cons _ _ _ _ _ (@ps_fldC _ _ _ _ _ _ _ _ _ TPump.cl TPump.n_asked (@pv _ 0 _ _ rfl (by walk_at "o") (by decide) (by decide)) (@pe_int _ _ _ _) (by walk_at "g")) (@pss_cons _ _ _ _ _ (@ps_fldC _ _ _ _ _ _ _ _ _ TPump.cl TPump.n_missed (@pv _ 0 _ _ rfl (by walk_at "o") (by decide) (by decide)) (@pe_int _ _ _ _) (by walk_at "g")) (@pss_cons _ _ _ _ _ (@ps_fldC _ _ _ _ _ _ _ _ _ TPump.cl TPump.n_total (@pv _ 0 _ _ rfl (by walk_at "o") (by decide) (by decide)) (@pe_int _ _ _ _) (by walk_at "g")) (@pss_cons _ _ _ _ _ (@ps_fldC _ _ _ _ _ _ _ _ _ TPump.cl TPump.n_free (@pv _ 0 _ _ rfl (by walk_at "o") (by decide) (by decide)) (@pe_int _ _ _ _) (by walk_at "g")) (@pss_one _ _ _ (@ps_fldC _ _ _ _ _ _ _ _ _ TPump.cl TPump.n_sent (@pv _ 0 _ _ rfl (by walk_at "o") (by decide) (by decide)) (@pe_lst _ _ _ _ (@pa_nil _)) (by walk_at "g"))))))))))))))))))), ?_⟩
  walk_at "rd"
  walk_at "cb"
  case refine_2 =>
    rename_i hn
    exact eH fun o => hn o.lk
  walk_at "rd"
  walk_at "cb"
  case refine_2 =>
    rename_i hn
    exact eH fun o => hn o.ds
  walk_at "rd"
  walk_at "cb"
  case refine_2 =>
    rename_i hn
    exact eH fun o => hn o.hd
  rename_i h1 h2 h3
  walk_at "rd"
  have hT1 := hT.upd (o := .ins CP dx [("day", .ref dy)]) hx True.intro
  refine ⟨a, rs, g.rules, rfl, SqL.of (at_ne nax ha), hT1, hb, h100, fun rg l H2 s2 nl hl => ?_, fun no => e (fun o => no o.r) _ fun b o hbx z => at_ne hbx z⟩
  have og : g.Ok := ⟨od, rg, h1, h2, h3⟩
  have nlx : l ≠ x := fun z => by rw [z, upd_same] at nl; cases nl
  walk_at "rd"
  intro sn n3
  have nxs : x ≠ sn := ne_of_none upd_same n3
  have nsx := nxs.symm
  walk_at "rd"
  simp only [upd_upd] at n3 ⊢
  have nls : l ≠ sn := ne_of_none (at_ne nlx hl) n3
  have n4 := n3
  simp only [upd_ne nsx] at n4
  have n5 := s2.free n4
  rw [upd_ne nsx] at n5
  rw [upd_ne nlx] at nl
  refine q og l sn _ (fun b o hbx z => by walk_at "hp") nl n5 ⟨upd_same, ?_, by walk_at "hp", ?_, at_ne nsx upd_same, nxd, nls⟩
  · exact ((((D.upd (o := .ins CP dx [("day", .ref dy)]) hx True.intro nxd.symm).same s2).upd (s2 _ _ upd_same) True.intro nxd.symm).same (Same.new n3 _)).upd (at_ne nxs upd_same) True.intro nxd.symm
  · exact (((hT1.same s2).upd (s2 _ _ upd_same) True.intro).same (Same.new n3 _)).upd (at_ne nxs upd_same) True.intro
end
end Sp

set_option Elab.async false
set_option linter.all false
set_option maxRecDepth 100000
set_option maxHeartbeats 4000000


namespace Sp
open PySem L2
noncomputable def cnt (s : Sd.S) : List Int := [s.now, if s.run = true then 1 else 0, s.con, s.wai, s.ask, s.mis, s.tot, s.fre]
noncomputable def words9 : List Str := ["now", "running", "content", "waiting", "asked", "missed", "total", "free", "sent"]
noncomputable def rows9 (s : Sd.S) : List (List Int) := (cnt s).map (fun n => [n]) ++ [s.sent]
noncomputable def lines9 (s : Sd.S) : List Str := List.zipWith Tx.line words9 (rows9 s)
structure Small (s : Sd.S) : Prop where
  c : ∀ n ∈ cnt s, 0 ≤ n ∧ n < 10 ^ 15
  st : ∀ n ∈ s.sent, 0 ≤ n ∧ n < 10 ^ 15
  ln : s.sent.length ≤ 1000
structure ZT (K : PySem.W.Frag) (mg : Str → Option Value) (aW : Addr) : Prop where
  str : mg "str" = none
  zip : mg "zip" = none
  all : mg "all" = none
  len : mg "len" = none
  int : mg "int" = none
  list : mg "list" = none
  enumerate : mg "enumerate" = none
  FIGURES : ∃ t, mg "FIGURES" = some (.str "0123456789" t)
  MOST_FIGURES : ∃ t, mg "MOST_FIGURES" = some (.int 15 t)
  WORDS : mg "WORDS" = some (.ref aW)
  words : ∀ H, SqT K H aW (words9.map V.str)
section
variable {P : Program} {w : World} {K : PySem.W.Frag} {mg : Str → Option Value} {base : Heap} {CP CD CB CL CN CS CO aW : Addr}
noncomputable def spCounts (K : PySem.W.Frag) (CP CD : Addr) : Sp := fun vs H Q _ => ∃ (p dx dy rl sn : Addr) (rs : List Addr) (g : Cf) (s : Sd.S), vs = [.ref p] ∧ PumpAt K CP CD H p dx dy rl sn rs g s ∧ ∀ l H', Same H H' → H l = none → H' l = some (.lst ((cnt s).map V.int)) → Q (.ref l) H'
theorem sccounts : FnScope ["pump", "running"] ["pump"] (defScope s_counts) := ⟨rfl, rfl, rfl, by decide +kernel, rfl, by decide +kernel, by decide +kernel⟩
theorem ok_counts {f : Addr} {fd : FuncData} (F : Fun K "counts" "counts" s_counts f fd) (TPump : TP K CP) : FnOk P w K mg base CX0 1 f fd ["pump"] (spCounts K CP CD) := by
  refine F.ok sccounts (fun vs H Q E h => ?_) (fun cdv A outer s₀ H vs Q E hr h => ?_)
  · obtain ⟨p, dx, dy, rl, sn, rs, g, s, rfl, _⟩ := h
    rfl
  obtain ⟨p, dx, dy, rl, sn, rs, g, s, rfl, a, q⟩ := h
  have ho := a.ob
  refine ⟨_, (@pss_cons _ _ _ _ _ (@ps_set _ _ (1) _ _ _ _ sccounts.nd rfl (Or.inl rfl) (@pe_ifExp _ _ _ _ _ _ _ _ (@pt_truth _ _ _ (@pe_fldR _ _ _ _ _ _ _ _ _ _ FPump_running TPump.cl TPump.n_running (@pv _ 0 _ _ rfl (by walk_at "o") (by decide) (by decide)) (by walk_at "g")) (fun _ => rfl)) (@pe_int _ _ _ _) (@pe_int _ _ _ _)) (by walk_at "g") (by walk_at "f")) (@pss_one _ _ _ (@ps_ret _ _ _ _ (@pe_lst _ _ _ _ (@pa_cons _ _ _ _ _ (@pe_fldR _ _ _ _ _ _ _ _ _ _ FPump_now TPump.cl TPump.n_now (@pv _ 0 _ _ rfl (by walk_at "o") (by decide) (by decide)) (by walk_at "g")) (@pa_cons _ _ _ _ _ (@pv _ 1 _ _ rfl (by walk_at "o") (by decide) (by decide)) (@pa_cons _ _ _ _ _ (@pe_fldR _ _ _ _ _ _ _ _ _ _ FPump_content TPump.cl TPump.n_content (@pv _ 0 _ _ rfl (by walk_at "o") (by decide) (by decide)) (by walk_at "g")) (@pa_cons _ _ _ _ _ (@pe_fldR _ _ _ _ _ _ _ _ _ _ FPump_waiting TPump.cl TPump.n_waiting (@pv _ 0 _ _ rfl (by walk_at "o") (by decide) (by decide)) (by walk_at "g")) (@pa_cons _ _ _ _ _ (@pe_fldR _ _ _ _ _ _ _ _ _ _ FPump_asked TPump.cl TPump.n_asked (@pv _ 0 _ _ rfl (by walk_at "o") (by decide) (by decide)) (by walk_at "g")) (@pa_cons _ _ _ _ _ (@pe_fldR _ _ _ _ _ _ _ _ _ _ FPump_missed TPump.cl TPump.n_missed (@pv _ 0 _ _ rfl (by walk_at "o") (by decide) (by decide)) (by walk_at "g")) (@pa_cons _ _ _ _ _ (@pe_fldR _ _ _ _ _ _ _ _ _ _ FPump_total TPump.cl TPump.n_total (@pv _ 0 _ _ rfl (by walk_at "o") (by decide) (by decide)) (by walk_at "g")) (@pa_cons _ _ _ _ _ (@pe_fldR _ _ _ _ _ _ _ _ _ _ FPump_free TPump.cl TPump.n_free (@pv _ 0 _ _ rfl (by walk_at "o") (by decide) (by decide)) (by walk_at "g")) (@pa_nil _) (by walk_at "g")) (by walk_at "g")) (by walk_at "g")) (by walk_at "g")) (by walk_at "g")) (by walk_at "g")) (by walk_at "g")) (by walk_at "g")))))), ?_⟩
  walk_at "rd"
  by_cases hrun : s.run = true
  · refine Eq.mpr (if_pos hrun) ?_
    walk_at "rd"
    intro l nl
    refine q l _ (Same.new nl _) nl ?_
    rw [upd_same]
    unfold cnt
    rw [if_pos hrun]
    rfl
  · refine Eq.mpr (if_neg hrun) ?_
    walk_at "rd"
    intro l nl
    refine q l _ (Same.new nl _) nl ?_
    rw [upd_same]
    unfold cnt
    rw [if_neg hrun]
    rfl
noncomputable def spLine (K : PySem.W.Frag) : Sp := fun vs H Q _ => ∃ (z : Str) (a : Addr) (ns : List Int), vs = [.str z, .ref a] ∧ SqL K H a (ns.map V.int) ∧ z.length ≤ 10 ∧ ns.length ≤ 1000 ∧ (∀ n ∈ ns, 0 ≤ n ∧ n < 10 ^ 15) ∧ ∀ H', Same H H' → Q (.str (Tx.line z ns)) H'
theorem log_small {n : Int} (h0 : 0 ≤ n) (h1 : n < 10 ^ 15) : n.natAbs.log2 < 1920 := by
  have : n.natAbs < 2 ^ 60 := by omega
  have h2 : n.natAbs.log2 < 60 := by
    by_cases hz : n.natAbs = 0
    · rw [hz]; decide
    · exact (Nat.log2_lt hz).mpr this
  omega
theorem scline_of : FnScope ["word", "numbers"] ["word", "numbers"] (defScope s_line_of) := ⟨rfl, rfl, rfl, by decide +kernel, rfl, by decide +kernel, by decide +kernel⟩
theorem ok_line_of {f : Addr} {fd : FuncData} (F : Fun K "line_of" "line_of" s_line_of f fd) (Z : ZT K mg aW) : FnOk P w K mg base CX0 1 f fd ["word", "numbers"] (spLine K) := by
  refine F.ok scline_of (fun vs H Q E h => ?_) (fun cdv A outer s₀ H vs Q E hr h => ?_)
  · obtain ⟨z, a, ns, rfl, _⟩ := h
    rfl
  obtain ⟨z, a, ns, rfl, hS, hz, hn, hb, q⟩ := h
  refine ⟨_, (@pss_one _ _ _ (@ps_ret _ _ _ _ (@pe_bm _ _ _ _ _ _ _ _ _ _ _ _ PySem.F.plainAttrs_str PySem.F.slot_str_join PySem.F.type_str_join mt_join (@pe_str _ _ _ _) (@pa_cons _ _ _ _ _ (@pe_op _ _ _ _ _ _ _ _ op_cat (@pe_lst _ _ _ _ (@pa_cons _ _ _ _ _ (@pv _ 0 _ _ rfl (by walk_at "o") (by decide) (by decide)) (@pa_nil _) (by walk_at "g"))) (@pe_comp _ _ _ _ _ _ (defScope s_line_of) _ (["word", "numbers"]) (["word", "numbers", "number"]) (["number"]) _ _ _ _ _ rfl rfl rfl (.of (by decide +kernel)) (@pi_list _ _ _ _ (@pv _ 1 _ _ rfl (by walk_at "o") (by decide) (by decide))) takes_name (fun _ _ _ _ _ => @pg_name _ _ (2) _ (show List.Nodup (["word", "numbers", "number"] : List Str) by decide +kernel) rfl (Or.inl rfl) (by walk_at "f")) (fun _ _ _ _ _ => @pif_nil _) (fun _ _ _ _ _ => (@pe_callTy _ _ _ _ _ _ _ _ _ call_str_int rfl Z.str (by decide +kernel) (@pa_cons _ _ _ _ _ (@pv _ 2 _ _ rfl (by walk_at "o") (by decide) (by decide)) (@pa_nil _) (by walk_at "g")) (by decide) (by decide) (by walk_at "g") rfl)) (by walk_at "g"))) (@pa_nil _) (by walk_at "g")) (by walk_at "g") (by walk_at "g") (by walk_at "g") (by walk_at "g") (by walk_at "g")))), ?_⟩
  walk_at "rd"
  intro l1 n1
  have s1 := Same.new n1 (.lst [.str z])
  have h1 : (upd H l1 (.lst [.str z])) l1 = some (.lst ([z].map V.str)) := upd_same
  have hS1 := s1.seq hS
  generalize upd H l1 (.lst [.str z]) = H1 at s1 h1 hS1 ⊢
  walk_at "rd"
  intro acc n2
  refine comp_list (xs := ns.map V.int) (fun i ys H2 => ys = ((ns.take i).map Tx.num).map V.str ∧ Same H1 H2 ∧ H2 acc = some (.lst ys)) ?_ ?_ ?_ ?_
  · exact ⟨rfl, Same.new n2 _, upd_same⟩
  · rintro i ys H2 _ ⟨_, s2, _⟩
    exact s2.seq hS1
  · rintro i x ys H2 hi hx ⟨rfl, s2, hac⟩
    obtain ⟨n, en, rfl⟩ : ∃ n, ns[i]? = some n ∧ x = .int n := by
      rw [List.getElem?_map] at hx
      cases e : ns[i]? with
      | none => rw [e] at hx; cases hx
      | some n => rw [e] at hx; exact ⟨n, rfl, (Option.some.inj hx).symm⟩
    have hnb := hb n (List.mem_of_getElem? en)
    have hlg := log_small hnb.1 hnb.2
    have hsz : (((ns.take i).map Tx.num).map V.str).length < sizeLine := by
      rw [List.length_map, List.length_map, List.length_take, sizeLine_eq]
      omega
    walk_at "rd"
    refine cstep hi ⟨?_, s2.mut n2, upd_same⟩
    rw [List.take_succ, en, List.map_append, List.map_append]
    rfl
  · rintro ys H2 ⟨rfl, s2, hac⟩
    rw [List.length_map, List.take_length] at hac
    have h2 := s2 _ _ h1
    refine ⟨l1, acc, [z].map V.str, (ns.map Tx.num).map V.str, rfl, rfl, h2, hac, ?_, fun l2 n3 => ?_⟩
    · rw [List.length_map, List.length_map, List.length_map, sizeLine_eq]
      show 1 + _ ≤ _
      omega
    refine ⟨_, l2, z :: ns.map Tx.num, rfl, rfl, by rw [upd_same, ← List.map_append]; rfl, ?_, ?_⟩
    · rw [Tx.sp_is]
      refine Tx.joinOkB (B := 15) (fun t ht => ?_) (by rw [List.length_cons, List.length_map]; omega)
      rcases List.mem_cons.mp ht with e | e
      · rw [e]; exact Nat.le_trans hz (by decide)
      · obtain ⟨n, hn', rfl⟩ := List.mem_map.mp e
        exact (Tx.num_len15 (hb n hn').1 (hb n hn').2).2
    · rw [Tx.sp_is]
      exact q _ ((s1.trans s2).trans (Same.new n3 _))
/-! ### saved -/
theorem cnt_len (s : Sd.S) : (cnt s).length = 8 := rfl
theorem words_short : ∀ z ∈ words9, z.length ≤ 10 ∧ 32 ∉ z.cps.toList := by decide +kernel
theorem rows_len (s : Sd.S) : (rows9 s).length = 9 := by unfold rows9; rw [List.length_append, List.length_map, cnt_len]; rfl
theorem rows_small {s : Sd.S} (m : Small s) : ∀ ns ∈ rows9 s, ns.length ≤ 1000 ∧ ∀ n ∈ ns, 0 ≤ n ∧ n < 10 ^ 15 := fun ns h => by
  unfold rows9 at h
  rcases List.mem_append.mp h with h | h
  · obtain ⟨n, hn, rfl⟩ := List.mem_map.mp h
    refine ⟨(show 1 ≤ 1000 by decide), fun k hk => ?_⟩
    rw [List.mem_singleton.mp hk]
    exact m.c n hn
  · rw [List.mem_singleton.mp h]
    exact ⟨m.ln, m.st⟩
structure RowsAt (H : Hp) (rr : List Addr) (rows : List (List Int)) : Prop where
  len : rr.length = rows.length
  at_ : ∀ i r, rr[i]? = some r → H r = some (.lst ((rows.getD i []).map V.int))
theorem RowsAt.same {H H' : Hp} {rr : List Addr} {rows : List (List Int)} (t : RowsAt H rr rows) (e : Same H H') : RowsAt H' rr rows := ⟨t.len, fun i r z => e _ _ (t.at_ i r z)⟩
theorem RowsAt.app {H : Hp} {rr : List Addr} {rows : List (List Int)} {r : Addr} {ns : List Int} (t : RowsAt H rr rows) (h : H r = some (.lst (ns.map V.int))) : RowsAt H (rr ++ [r]) (rows ++ [ns]) := by
  have hl := t.len
  refine ⟨by simp [hl], fun i r' e => ?_⟩
  by_cases hi : i < rr.length
  · rw [List.getElem?_append_left hi] at e
    rw [List.getD_eq_getElem?_getD, List.getElem?_append_left (by omega), ← List.getD_eq_getElem?_getD]
    exact t.at_ i r' e
  · have hlt : i < (rr ++ [r]).length := (List.getElem?_eq_some_iff.mp e).1
    have hi' : i = rr.length := by rw [List.length_append] at hlt; simp at hlt; omega
    subst hi'
    rw [List.getElem?_append_right (Nat.le_refl _), Nat.sub_self] at e
    have e' : r = r' := by simpa using e
    subst e'
    rw [List.getD_eq_getElem?_getD, hl, List.getElem?_append_right (Nat.le_refl _), Nat.sub_self]
    exact h
theorem RowsAt.mut {H : Hp} {rr : List Addr} {rows : List (List Int)} {b : Addr} {o : HO} (t : RowsAt H rr rows) (h : ∀ r ∈ rr, r ≠ b) : RowsAt (upd H b o) rr rows := ⟨t.len, fun i r z => at_ne (h r (List.mem_of_getElem? z)) (t.at_ i r z)⟩
noncomputable def spSaved (K : PySem.W.Frag) (CP CD : Addr) : Sp := fun vs H Q _ => ∃ (p dx dy rl sn : Addr) (rs : List Addr) (g : Cf) (s : Sd.S), vs = [.ref p] ∧ PumpAt K CP CD H p dx dy rl sn rs g s ∧ Small s ∧ ∀ l H', Same H H' → H l = none → H' l = some (.lst ((lines9 s).map V.str)) → Q (.ref l) H'
theorem scsaved : FnScope ["pump", "rows"] ["pump"] (defScope s_saved) := ⟨rfl, rfl, rfl, by decide +kernel, rfl, by decide +kernel, by decide +kernel⟩
theorem ok_saved {f f1 f2 : Addr} {fd fd1 fd2 : FuncData} (F : Fun K "saved" "saved" s_saved f fd) (TPump : TP K CP) (Z : ZT K mg aW) (B_counts : Fn P w K mg base CX0 1 "counts" ["pump"] (spCounts K CP CD) f1 fd1) (B_line_of : Fn P w K mg base CX0 1 "line_of" ["word", "numbers"] (spLine K) f2 fd2) : FnOk P w K mg base CX0 2 f fd ["pump"] (spSaved K CP CD) := by
  refine F.ok scsaved (fun vs H Q E h => ?_) (fun cdv A outer s₀ H vs Q E hr h => ?_)
  · obtain ⟨p, dx, dy, rl, sn, rs, g, s, rfl, _⟩ := h
    rfl
  obtain ⟨p, dx, dy, rl, sn, rs, g, s, rfl, a, sm, q⟩ := h
  have ho := a.ob
  refine ⟨_, (@pss_cons _ _ _ _ _ (@ps_set _ _ (1) _ _ _ _ scsaved.nd rfl (Or.inl rfl) (@pe_op _ _ _ _ _ _ _ _ op_cat (@pe_comp _ _ _ _ _ _ (defScope s_saved) _ (["pump", "rows"]) (["pump", "rows", "number"]) (["number"]) _ _ _ _ _ rfl rfl rfl (.of (by decide +kernel)) (@pi_list _ _ _ _ (@pe_call _ _ _ _ _ _ _ _ _ _ _ _ _ _ _ _ B_counts.ok (Room.mono hr (by decide)) rfl B_counts.m B_counts.kp B_counts.b .nil pass0 (@pa_cons _ _ _ _ _ (@pv _ 0 _ _ rfl (by walk_at "o") (by decide) (by decide)) (@pa_nil _) (by walk_at "g")) (by decide) (by walk_at "g") rfl)) takes_name (fun _ _ _ _ _ => @pg_name _ _ (2) _ (show List.Nodup (["pump", "rows", "number"] : List Str) by decide +kernel) rfl (Or.inl rfl) (by walk_at "f")) (fun _ _ _ _ _ => @pif_nil _) (fun _ _ _ _ _ => (@pe_lst _ _ _ _ (@pa_cons _ _ _ _ _ (@pv _ 2 _ _ rfl (by walk_at "o") (by decide) (by decide)) (@pa_nil _) (by walk_at "g")))) (by walk_at "g")) (@pe_lst _ _ _ _ (@pa_cons _ _ _ _ _ (@pe_fldR _ _ _ _ _ _ _ _ _ _ FPump_sent TPump.cl TPump.n_sent (@pv _ 0 _ _ rfl (by walk_at "o") (by decide) (by decide)) (by walk_at "g")) (@pa_nil _) (by walk_at "g")))) (by walk_at "g") (by walk_at "f")) (@pss_one _ _ _ (@ps_ret _ _ _ _ (@pe_comp _ _ _ _ _ _ (defScope s_saved) _ (["pump", "rows"]) (["pump", "rows", "word", "numbers"]) (["word", "numbers"]) _ _ _ _ _ rfl rfl rfl (.of (by decide +kernel)) (@pi_zipT _ _ _ _ _ _ _ _ _ rfl Z.zip (@pa_cons _ _ _ _ _ (@pe_glob _ _ (.ref _) _ _ rfl Z.WORDS rfl (by decide)) (@pa_cons _ _ _ _ _ (@pv _ 1 _ _ rfl (by walk_at "o") (by decide) (by decide)) (@pa_nil _) (by walk_at "g")) (by walk_at "g")) (by walk_at "g") (by walk_at "g")) takes_two (fun _ _ _ _ _ => @pg_tup _ _ _ _ _ _ rfl (@pgs_cons _ _ _ _ _ (@pg_name _ _ (2) _ (show List.Nodup (["pump", "rows", "word", "numbers"] : List Str) by decide +kernel) rfl (Or.inl rfl) (by walk_at "f")) (@pgs_cons _ _ _ _ _ (@pg_name _ _ (3) _ (show List.Nodup (["pump", "rows", "word", "numbers"] : List Str) by decide +kernel) rfl (Or.inl rfl) (by walk_at "f")) (@pgs_nil _) (by walk_at "g")) (by walk_at "g")) (by rfl) (by rfl)) (fun _ _ _ _ _ => @pif_nil _) (fun _ _ _ _ _ => (@pe_call _ _ _ _ _ _ _ _ _ _ _ _ _ _ _ _ B_line_of.ok (Room.mono hr (by decide)) rfl B_line_of.m B_line_of.kp B_line_of.b .nil pass0 (@pa_cons _ _ _ _ _ (@pv _ 2 _ _ rfl (by walk_at "o") (by decide) (by decide)) (@pa_cons _ _ _ _ _ (@pv _ 3 _ _ rfl (by walk_at "o") (by decide) (by decide)) (@pa_nil _) (by walk_at "g")) (by walk_at "g")) (by decide) (by walk_at "g") rfl)) (by walk_at "g"))))), ?_⟩
  walk_at "rd"
  refine ⟨p, dx, dy, rl, sn, rs, g, s, rfl, a, fun lc H1 s1 nlc hlc => ?_⟩
  have a1 := a.same s1
  have ho1 := a1.ob
  walk_at "rd"
  intro acc n1
  have neS : sn ≠ acc := ne_of_none a1.se n1
  refine comp_list (xs := (cnt s).map V.int) (fun i ys H2 => ∃ rr : List Addr, ys = rr.map V.ref ∧ RowsAt H2 rr (((cnt s).take i).map fun n => [n]) ∧ (∀ r ∈ rr, r ≠ acc) ∧ Same H1 H2 ∧ H2 acc = some (.lst ys)) ?_ ?_ ?_ ?_
  · exact ⟨[], rfl, ⟨rfl, fun i r z => by simp at z⟩, fun r h => by simp at h, Same.new n1 _, upd_same⟩
  · rintro i ys H2 _ ⟨_, _, _, _, s2, _⟩
    exact SqL.of (s2 _ _ hlc)
  · rintro i x ys H2 hi hx ⟨rr, rfl, hR, hne, s2, hac⟩
    obtain ⟨n, en, rfl⟩ : ∃ n, (cnt s)[i]? = some n ∧ x = .int n := by
      rw [List.getElem?_map] at hx
      cases e : (cnt s)[i]? with
      | none => rw [e] at hx; cases hx
      | some n => rw [e] at hx; exact ⟨n, rfl, (Option.some.inj hx).symm⟩
    have hi8 : i < 8 := by rw [List.length_map, cnt_len] at hi; exact hi
    have hrl := hR.len
    rw [List.length_map, List.length_take, cnt_len] at hrl
    have hsz : (rr.map V.ref).length < sizeLine := by rw [List.length_map, sizeLine_eq]; omega
    walk_at "rd"
    intro lt nlt
    have nla : lt ≠ acc := (ne_of_none hac nlt).symm
    have hac' := at_new (o := .lst [.int n]) nlt hac
    refine ⟨hac', hsz, cstep hi ⟨rr ++ [lt], by rw [List.map_append]; rfl, ?_, fun r h => ?_, (s2.trans (Same.new nlt _)).mut n1, upd_same⟩⟩
    · have e2 : ((cnt s).take (i + 1)).map (fun n => [n]) = ((cnt s).take i).map (fun n => [n]) ++ [[n]] := by
        rw [List.take_succ, en, List.map_append]
        rfl
      rw [e2]
      refine RowsAt.mut ((hR.same (Same.new nlt _)).app upd_same) fun r h => ?_
      rcases List.mem_append.mp h with h | h
      · exact hne r h
      · rw [List.mem_singleton.mp h]; exact nla
    · rcases List.mem_append.mp h with h | h
      · exact hne r h
      · rw [List.mem_singleton.mp h]; exact nla
  · rintro ys H2 ⟨rr, rfl, hR, hne, s2, hac⟩
    rw [List.length_map, List.take_length] at hR
    have a2 := a1.same s2
    have ho2 := a2.ob
    have hrl := hR.len
    rw [List.length_map, cnt_len] at hrl
    walk_at "rd"
    intro l2 n2
    show rCat (.ref acc) (.ref l2) (upd H2 l2 (.lst [.ref sn])) _
    have s3 := Same.new n2 (.lst [.ref sn])
    have hac3 := s3 _ _ hac
    have hR3 := (hR.same s3).app (r := sn) (ns := s.sent) (s3 _ _ a2.se)
    refine ⟨acc, l2, rr.map V.ref, [.ref sn], rfl, rfl, hac3, upd_same, by rw [List.length_map, sizeLine_eq, hrl]; show 8 + 1 ≤ _; decide, fun l3 n3 => ?_⟩
    have s4 := Same.new n3 (.lst (rr.map V.ref ++ [.ref sn]))
    have hl3 : (upd (upd H2 l2 (.lst [.ref sn])) l3 (.lst (rr.map V.ref ++ [.ref sn]))) l3 = some (.lst ((rr ++ [sn]).map V.ref)) := by rw [upd_same, List.map_append]; rfl
    have hR4 := hR3.same s4
    have sA := ((s1.trans s2).trans s3).trans s4
    have eR : (cnt s).map (fun n => [n]) ++ [s.sent] = rows9 s := rfl
    rw [eR] at hR4
    generalize upd (upd H2 l2 (.lst [.ref sn])) l3 (.lst (rr.map V.ref ++ [.ref sn])) = H4 at hl3 hR4 sA ⊢
    have hr9 := rows_len s
    have hl9 := hR4.len
    have hW := Z.words H4
    walk_at "rd"
    intro ac2 na2
    refine comp_zt (xs := words9.map V.str) (ws := (rr ++ [sn]).map V.ref) (fun i ys H5 => ys = ((lines9 s).take i).map V.str ∧ Same H4 H5 ∧ H5 ac2 = some (.lst ys)) ?_ ?_ ?_ ?_ ?_
    · exact ⟨rfl, Same.new na2 _, upd_same⟩
    · rintro i ys H5 _ ⟨_, s5, _⟩
      exact ⟨Z.words _, SqL.of (s5 _ _ hl3)⟩
    · rw [List.length_map, List.length_map, hl9, hr9]; rfl
    · rintro i x y T ys H5 hi hx hy ⟨rfl, s5, hac2⟩ nT
      have hi9 : i < 9 := hi
      have hiw : i < words9.length := hi9
      have hir : i < (rows9 s).length := by omega
      obtain ⟨r, er, rfl⟩ : ∃ r, (rr ++ [sn])[i]? = some r ∧ y = .ref r := by
        rw [List.getElem?_map] at hy
        cases e : (rr ++ [sn])[i]? with
        | none => rw [e] at hy; cases hy
        | some r => rw [e] at hy; exact ⟨r, rfl, (Option.some.inj hy).symm⟩
      obtain ⟨z, ez, rfl⟩ : ∃ z, words9[i]? = some z ∧ x = .str z := by
        rw [List.getElem?_map] at hx
        cases e : words9[i]? with
        | none => rw [e] at hx; cases hx
        | some z => rw [e] at hx; exact ⟨z, rfl, (Option.some.inj hx).symm⟩
      obtain ⟨ns, en⟩ : ∃ ns, (rows9 s)[i]? = some ns := ⟨_, List.getElem?_eq_getElem hir⟩
      have hrow : H4 r = some (.lst (ns.map V.int)) := by
        have := hR4.at_ i r er
        rw [List.getD_eq_getElem?_getD, en] at this
        exact this
      have hz := words_short z (List.mem_of_getElem? ez)
      have hns := rows_small sm ns (List.mem_of_getElem? en)
      have s6 := s5.trans (Same.new nT (.tup [.str z, .ref r]))
      have hac3' := at_new (o := .tup [.str z, .ref r]) nT hac2
      have hsz : (((lines9 s).take i).map V.str).length < sizeLine := by rw [List.length_map, List.length_take, sizeLine_eq]; omega
      have hr6 := s6 _ _ hrow
      have el : (lines9 s)[i]? = some (Tx.line z ns) := by
        unfold lines9
        rw [List.getElem?_zipWith, ez, en]
      walk_at "rd"
      refine ⟨hns.2, fun H7 s7 => ⟨s7 _ _ hac3', hsz, cstep hi ⟨?_, (s6.trans s7).mut na2, upd_same⟩⟩⟩
      rw [List.take_succ, el, List.map_append]
      rfl
    · rintro ys H5 ⟨rfl, s5, hac2⟩
      have e : (lines9 s).take (words9.map V.str).length = lines9 s := List.take_of_length_le (by unfold lines9; rw [List.length_zipWith, List.length_map]; exact Nat.min_le_left _ _)
      rw [e] at hac2
      exact q ac2 _ (sA.trans s5) (sA.free na2) hac2
end
end Sp

set_option Elab.async false
set_option linter.all false
set_option maxRecDepth 100000
set_option maxHeartbeats 4000000


namespace Sp
open PySem L2
section
variable {P : Program} {w : World} {K : PySem.W.Frag} {mg : Str → Option Value} {base : Heap} {CP CD CB CL CN CS CO aW : Addr}
noncomputable def dg (c : Nat) : Bool := decide (48 ≤ c ∧ c ≤ 57)
theorem okNum_long {z : Str} (h : ¬ (1 ≤ z.length ∧ z.length ≤ 15)) : Tx.okNum z = false := Bool.eq_false_iff.mpr fun e => by
  have n := Tx.okNum_iff.mp e
  exact h ⟨n.l1, n.l2⟩
theorem okNum_zero {z : Str} {r : List Nat} (e0 : z.cps.toList = 48 :: r) (h : z.length ≠ 1) : Tx.okNum z = false := Bool.eq_false_iff.mpr fun e => by
  have n := Tx.okNum_iff.mp e
  rcases n.h with q | q
  · exact h q
  · rw [e0] at q; exact q rfl
theorem okNum_all {z : Str} (h1 : 1 ≤ z.length) (h2 : z.length ≤ 15) (h3 : z.length = 1 ∨ z.cps.toList.head? ≠ some 48) : (z.cps.toList.map dg).all id = Tx.okNum z := by
  unfold Tx.okNum
  rw [decide_eq_true h1, decide_eq_true h2, List.all_map, ← Bool.decide_or, decide_eq_true h3, Bool.and_true]
  rfl
noncomputable def spIsN : Sp := fun vs H Q _ => ∃ z : Str, vs = [.str z] ∧ z.length ≤ 1000 ∧ ∀ H', Same H H' → Q (.bl (Tx.okNum z)) H'
theorem scis_number : FnScope ["text"] ["text"] (defScope s_is_number) := ⟨rfl, rfl, rfl, by decide +kernel, rfl, by decide +kernel, by decide +kernel⟩
theorem ok_is_number {f : Addr} {fd : FuncData} (F : Fun K "is_number" "is_number" s_is_number f fd) (Z : ZT K mg aW) : FnOk P w K mg base CX0 1 f fd ["text"] spIsN := by
  refine F.ok scis_number (fun vs H Q E h => ?_) (fun cdv A outer s₀ H vs Q E hr h => ?_)
  · obtain ⟨n, rfl, _⟩ := h
    rfl
  obtain ⟨z, rfl, hz, q⟩ := h
  have hsl : z.length ≤ sizeLine := by rw [sizeLine_eq]; omega
  refine ⟨_, (@pss_cons _ _ _ _ _ (@ps_if _ _ _ _ _ _ _ _ (PW.pt (@pw_or _ _ _ _ _ _ _ (@pt_cmpR _ _ _ _ _ _ _ _ op_lt (@pe_callB _ _ _ _ _ _ _ _ _ call_len_str rfl Z.len (by decide +kernel) (@pa_cons _ _ _ _ _ (@pv _ 0 _ _ rfl (by walk_at "o") (by decide) (by decide)) (@pa_nil _) (by walk_at "g")) (by decide) (by decide) (by walk_at "g") rfl) (@pe_int _ _ _ _) (nomark _)) (@pw_or1 _ _ _ _ (@pt_cmpR _ _ _ _ _ _ _ _ op_gt (@pe_callB _ _ _ _ _ _ _ _ _ call_len_str rfl Z.len (by decide +kernel) (@pa_cons _ _ _ _ _ (@pv _ 0 _ _ rfl (by walk_at "o") (by decide) (by decide)) (@pa_nil _) (by walk_at "g")) (by decide) (by decide) (by walk_at "g") rfl) (@pe_globI _ _ (15) _ rfl Z.MOST_FIGURES (by decide)) (nomark _))))) (@pss_one _ _ _ (@ps_ret _ _ _ _ (@pe_bl _ _ _ _))) (@pss_nil _)) (@pss_cons _ _ _ _ _ (@ps_cut _ _ _ (@ps_if _ _ _ _ _ _ _ _ (PW.pt (@pw_and _ _ _ _ _ _ _ (@pt_cmpR _ _ _ _ _ _ _ _ op_eq (@pe_ix _ _ _ _ _ _ _ ix_str (@pv _ 0 _ _ rfl (by walk_at "o") (by decide) (by decide)) (@pe_int _ _ _ _) (fun _ _ => rfl)) (@pe_str _ _ _ _) (nomark _)) (@pw_and1 _ _ _ _ (@pt_cmpR _ _ _ _ _ _ _ _ op_gt (@pe_callB _ _ _ _ _ _ _ _ _ call_len_str rfl Z.len (by decide +kernel) (@pa_cons _ _ _ _ _ (@pv _ 0 _ _ rfl (by walk_at "o") (by decide) (by decide)) (@pa_nil _) (by walk_at "g")) (by decide) (by decide) (by walk_at "g") rfl) (@pe_int _ _ _ _) (nomark _))))) (@pss_one _ _ _ (@ps_ret _ _ _ _ (@pe_bl _ _ _ _))) (@pss_nil _))) (@pss_one _ _ _ (@ps_ret _ _ _ _ (@pe_callB _ _ _ _ _ _ _ _ _ (call_allL rfl) rfl Z.all (by decide +kernel) (@pa_cons _ _ _ _ _ (@pe_comp _ _ _ _ _ _ (defScope s_is_number) _ (["text"]) (["text", "sign"]) (["sign"]) _ _ _ _ _ rfl rfl rfl (.of (by decide +kernel)) (@pi_str _ _ _ _ (@pv _ 0 _ _ rfl (by walk_at "o") (by decide) (by decide))) takes_name (fun _ _ _ _ _ => @pg_name _ _ (1) _ (show List.Nodup (["text", "sign"] : List Str) by decide +kernel) rfl (Or.inl rfl) (by walk_at "f")) (fun _ _ _ _ _ => @pif_nil _) (fun _ _ _ _ _ => (@pe_cmpR _ _ _ _ _ _ _ _ op_in_str (@pv _ 1 _ _ rfl (by walk_at "o") (by decide) (by decide)) (@pe_globS _ _ ("0123456789") _ rfl Z.FIGURES (by decide)) (by with_unfolding_all rfl))) (by walk_at "g")) (@pa_nil _) (by walk_at "g")) (by decide) (by decide) (by walk_at "g") rfl))))), ?_⟩
  by_cases l1 : 1 ≤ z.length
  · by_cases l2 : z.length ≤ 15
    · have el := Tx.len_eq z
      obtain ⟨c, r, e0⟩ : ∃ c r, z.cps.toList = c :: r := by
        cases e : z.cps.toList with
        | nil => rw [e] at el; have : z.length = 0 := el.symm; omega
        | cons c r => exact ⟨c, r, rfl⟩
      have hat : atI z.cps.toList 0 = some c := by
        have q : atI z.cps.toList ((0 : Nat) : Int) = some c := atI_nat (by rw [e0]; rfl)
        exact q
      walk_at "rd"
      refine ⟨fun σ' H' => σ' = [some (.str z)] ∧ H' = H ∧ (z.length = 1 ∨ z.cps.toList.head? ≠ some 48), ?_, ?_⟩
      · walk_at "rd"
        refine ⟨z, 0, c, rfl, rfl, hsl, hat, ?_⟩
        by_cases h48 : c = 48
        · subst h48
          have ed : decide (V.str ⟨#[48]⟩ = V.str (Str.ofString "0")) = true := by decide
          by_cases l3 : z.length = 1
          · walk_at "rd"
            exact .inl l3
          · have eN := okNum_zero e0 l3
            have l4 : (1 : Int) < z.length := by omega
            walk_at "rd"
            rw [← eN]
            exact q H Same.refl'
        · have ed : decide (V.str ⟨#[c]⟩ = V.str (Str.ofString "0")) = false := by
            refine decide_eq_false fun z => h48 ?_
            have z := V.str.inj z
            rw [show Str.ofString "0" = ⟨#[48]⟩ by decide +kernel] at z
            cases z
            rfl
          walk_at "rd"
          rw [ed]
          walk_at "rd"
          refine .inr ?_
          rw [e0]
          exact fun y => h48 (Option.some.inj y)
      rintro σ' H' ⟨rfl, rfl, h3⟩
      walk_at "rd"
      intro acc n1
      refine comp_str (z := z) (fun i ys H2 => ys = ((z.cps.toList.take i).map dg).map V.bl ∧ Same H' H2 ∧ H2 acc = some (.lst ys)) ?_ ?_ ?_
      · exact ⟨rfl, Same.new n1 _, upd_same⟩
      · rintro i d ys H2 hi hd ⟨rfl, s2, hac⟩
        have hd2 : z.cps.toList[i]? = some d := by rw [← hd]; simp
        have hf := Tx.figD d
        have hsz : (((z.cps.toList.take i).map dg).map V.bl).length < sizeLine := by
          rw [List.length_map, List.length_map, List.length_take, el, sizeLine_eq]
          omega
        walk_at "rd"
        rw [hf]
        refine cstep hi ⟨?_, s2.mut n1, upd_same⟩
        rw [List.take_succ, hd2, List.map_append, List.map_append]
        rfl
      · rintro ys H2 ⟨rfl, s2, hac⟩
        have e9 : z.cps.toList.take z.cps.size = z.cps.toList := List.take_of_length_le (by rw [el]; exact Nat.le_refl _)
        rw [e9] at hac
        refine ⟨acc, z.cps.toList.map dg, rfl, SqL.of hac, ?_⟩
        rw [okNum_all l1 l2 h3]
        exact q H2 s2
    · have eN := okNum_long (z := z) (fun h => l2 h.2)
      walk_at "rd"
      rw [← eN]
      exact q H Same.refl'
  · have eN := okNum_long (z := z) (fun h => l1 h.1)
    walk_at "rd"
    rw [← eN]
    exact q H Same.refl'
end
end Sp

set_option Elab.async false
set_option linter.all false
set_option maxRecDepth 100000
set_option maxHeartbeats 4000000


namespace Sp
open PySem L2
section
variable {P : Program} {w : World} {K : PySem.W.Frag} {mg : Str → Option Value} {base : Heap} {CP CD CB CL CN CS CO aW : Addr}
noncomputable def rowOf (z : Str) : List Int := (Tx.cut z).tail.map Tx.val
noncomputable def lnOk (w z : Str) : Bool := decide ((Tx.cut z).head? = some w) && (Tx.cut z).tail.all Tx.okNum
noncomputable def spNumsA (K : PySem.W.Frag) : Sp := fun vs H Q _ => ∃ (z y : Str), vs = [.str z, .str y] ∧ y.length ≤ 900 ∧ (lnOk z y = false → ∀ H', Same H H' → Q .non H') ∧ (lnOk z y = true → ∀ l H', Same H H' → H l = none → H' l = some (.lst ((rowOf y).map V.int)) → Q (.ref l) H')
theorem scnumbers_of : FnScope ["word", "line", "pieces", "texts"] ["word", "line"] (defScope s_numbers_of) := ⟨rfl, rfl, rfl, by decide +kernel, rfl, by decide +kernel, by decide +kernel⟩
theorem ok_numbers_of {f f1 : Addr} {fd fd1 : FuncData} (F : Fun K "numbers_of" "numbers_of" s_numbers_of f fd) (Z : ZT K mg aW) (B_is_number : Fn P w K mg base CX0 1 "is_number" ["text"] spIsN f1 fd1) : FnOk P w K mg base CX0 2 f fd ["word", "line"] (spNumsA K) := by
  refine F.ok scnumbers_of (fun vs H Q E h => ?_) (fun cdv A outer s₀ H vs Q E hr h => ?_)
  · obtain ⟨z, ns, rfl, _⟩ := h
    rfl
  obtain ⟨z, y, rfl, hy, q0, q1⟩ := h
  obtain ⟨p, ts, ec⟩ : ∃ p ts, Tx.cut y = p :: ts := by
    cases e : Tx.cut y with
    | nil => exact absurd e (Tx.cut_pos y)
    | cons p ts => exact ⟨p, ts, rfl⟩
  have hj := Tx.jl_cut y
  have hln := Tx.jl_len (Tx.cut y)
  have hmem : ∀ t ∈ ts, t.length ≤ 900 := fun t ht => by
    have := Tx.jl_mem (a := Tx.cut y) (t := t) (by rw [ec]; exact List.mem_cons_of_mem _ ht)
    omega
  have htl : ts.length ≤ 900 := by
    have h := hln
    rw [hj, ec, List.length_cons] at h
    omega
  have eL : lnOk z y = (decide (p = z) && ts.all Tx.okNum) := by
    unfold lnOk
    rw [ec]
    show (decide (some p = some z) && _) = _
    rw [show decide (some p = some z) = decide (p = z) from decide_eq_decide.mpr ⟨Option.some.inj, congrArg some⟩]
    rfl
  have eR : rowOf y = ts.map Tx.val := by unfold rowOf; rw [ec]; rfl
  rw [eL] at q0 q1
  rw [eR] at q1
  refine ⟨_, (@pss_cons _ _ _ _ _ (@ps_set _ _ (2) _ _ _ _ scnumbers_of.nd rfl (Or.inl rfl) (@pe_bm _ _ _ _ _ _ _ _ _ _ _ _ PySem.F.plainAttrs_str PySem.F.slot_str_split PySem.F.type_str_split mt_split (@pv _ 1 _ _ rfl (by walk_at "o") (by decide) (by decide)) (@pa_cons _ _ _ _ _ (@pe_str _ _ _ _) (@pa_nil _) (by walk_at "g")) (by walk_at "g") (by walk_at "g") (by walk_at "g") (by walk_at "g") (by walk_at "g")) (by walk_at "g") (by walk_at "f")) (@pss_cons _ _ _ _ _ (@ps_set _ _ (3) _ _ _ _ scnumbers_of.nd rfl (Or.inl rfl) (@pe_slice _ _ _ _ _ _ _ _ _ _ sl_list (@pv _ 2 _ _ rfl (by walk_at "o") (by decide) (by decide)) (@po_some _ _ _ (@pe_int _ _ _ _)) (@po_none _)) (by walk_at "g") (by walk_at "f")) (@pss_cons _ _ _ _ _ (@ps_if _ _ _ _ _ _ _ _ (PW.pt (@pw_or _ _ _ _ _ _ _ (@pt_cmpR _ _ _ _ _ _ _ _ op_ne (@pe_ix _ _ _ _ _ _ _ ix_list (@pv _ 2 _ _ rfl (by walk_at "o") (by decide) (by decide)) (@pe_int _ _ _ _) (fun _ _ => rfl)) (@pv _ 0 _ _ rfl (by walk_at "o") (by decide) (by decide)) (nomark _)) (@pw_or1 _ _ _ _ (@pt_not _ _ _ _ (@pt_val _ _ _ (@pe_callB _ _ _ _ _ _ _ _ _ (call_allL rfl) rfl Z.all (by decide +kernel) (@pa_cons _ _ _ _ _ (@pe_comp _ _ _ _ _ _ (defScope s_numbers_of) _ (["word", "line", "pieces", "texts"]) (["word", "line", "pieces", "texts", "text"]) (["text"]) _ _ _ _ _ rfl rfl rfl (.of (by decide +kernel)) (@pi_list _ _ _ _ (@pv _ 3 _ _ rfl (by walk_at "o") (by decide) (by decide))) takes_name (fun _ _ _ _ _ => @pg_name _ _ (4) _ (show List.Nodup (["word", "line", "pieces", "texts", "text"] : List Str) by decide +kernel) rfl (Or.inl rfl) (by walk_at "f")) (fun _ _ _ _ _ => @pif_nil _) (fun _ _ _ _ _ => (@pe_call _ _ _ _ _ _ _ _ _ _ _ _ _ _ _ _ B_is_number.ok (Room.mono hr (by decide)) rfl B_is_number.m B_is_number.kp B_is_number.b .nil pass0 (@pa_cons _ _ _ _ _ (@pv _ 4 _ _ rfl (by walk_at "o") (by decide) (by decide)) (@pa_nil _) (by walk_at "g")) (by decide) (by walk_at "g") rfl)) (by walk_at "g")) (@pa_nil _) (by walk_at "g")) (by decide) (by decide) (by walk_at "g") rfl) (by walk_at "g")))))) (@pss_one _ _ _ (@ps_ret _ _ _ _ (@pe_non _ _ _))) (@pss_nil _)) (@pss_one _ _ _ (@ps_ret _ _ _ _ (@pe_comp _ _ _ _ _ _ (defScope s_numbers_of) _ (["word", "line", "pieces", "texts"]) (["word", "line", "pieces", "texts", "text"]) (["text"]) _ _ _ _ _ rfl rfl rfl (.of (by decide +kernel)) (@pi_list _ _ _ _ (@pv _ 3 _ _ rfl (by walk_at "o") (by decide) (by decide))) takes_name (fun _ _ _ _ _ => @pg_name _ _ (4) _ (show List.Nodup (["word", "line", "pieces", "texts", "text"] : List Str) by decide +kernel) rfl (Or.inl rfl) (by walk_at "f")) (fun _ _ _ _ _ => @pif_nil _) (fun _ _ _ _ _ => (@pe_callTy _ _ _ _ _ _ _ _ _ call_intS rfl Z.int (by decide +kernel) (@pa_cons _ _ _ _ _ (@pv _ 4 _ _ rfl (by walk_at "o") (by decide) (by decide)) (@pa_nil _) (by walk_at "g")) (by decide) (by decide) (by walk_at "g") rfl)) (by walk_at "g"))))))), ?_⟩
  walk_at "rd"
  intro lp np
  rw [Tx.sp_is, show Txt.split y Tx.sp = p :: ts from ec]
  have s1 := Same.new np (.lst ((p :: ts).map V.str))
  have hp1 : (upd H lp (.lst ((p :: ts).map V.str))) lp = some (.lst ((p :: ts).map V.str)) := upd_same
  generalize upd H lp (.lst ((p :: ts).map V.str)) = H1 at s1 hp1 ⊢
  have a0 : atI ((p :: ts).map V.str) 0 = some (.str p) := by
    have q : atI ((p :: ts).map V.str) ((0 : Nat) : Int) = some (.str p) := atI_nat rfl
    exact q
  walk_at "rd"
  refine ⟨lp, _, rfl, SqL.of hp1, fun lt nt => ?_⟩
  have e1 : cutV ((p :: ts).map V.str) (some 1) none = ts.map V.str := by
    have := cut_from (xs := (p :: ts).map V.str) (k := 1)
    exact this
  rw [e1]
  have s2 := Same.new nt (.lst (ts.map V.str))
  have hp2 := s2 _ _ hp1
  have ht2 : (upd H1 lt (.lst (ts.map V.str))) lt = some (.lst (ts.map V.str)) := upd_same
  generalize upd H1 lt (.lst (ts.map V.str)) = H2 at s2 hp2 ht2 ⊢
  have s12 := s1.trans s2
  have getN : ∀ {i : Nat} {x : V}, (ts.map V.str)[i]? = some x → ∃ t, ts[i]? = some t ∧ x = .str t := fun {i x} hx => by
    rw [List.getElem?_map] at hx
    cases e : ts[i]? with
    | none => rw [e] at hx; cases hx
    | some n => rw [e] at hx; exact ⟨n, rfl, (Option.some.inj hx).symm⟩
  by_cases hpz : p = z
  · subst hpz
    have en : decide (V.str p = V.str p) = true := decide_eq_true rfl
    rw [decide_eq_true rfl, Bool.true_and] at q0 q1
    walk_at "rd"
    intro acc n3
    refine comp_list (xs := ts.map V.str) (fun i ys H3 => ys = ((ts.take i).map Tx.okNum).map V.bl ∧ Same H2 H3 ∧ H3 acc = some (.lst ys)) ?_ ?_ ?_ ?_
    · exact ⟨rfl, Same.new n3 _, upd_same⟩
    · rintro i ys H3 _ ⟨_, s3, _⟩
      exact SqL.of (s3 _ _ ht2)
    · rintro i x ys H3 hi hx ⟨rfl, s3, hac⟩
      obtain ⟨t, et, rfl⟩ := getN hx
      have htm := hmem t (List.mem_of_getElem? et)
      have hsz : (((ts.take i).map Tx.okNum).map V.bl).length < sizeLine := by rw [List.length_map, List.length_map, List.length_take, sizeLine_eq]; omega
      have ht1 : t.length ≤ 1000 := by omega
      walk_at "rd"
      rename_i H4 s4
      refine ⟨s4 _ _ hac, hsz, cstep hi ⟨?_, (s3.trans s4).mut n3, upd_same⟩⟩
      rw [List.take_succ, et, List.map_append, List.map_append]
      rfl
    · rintro ys H3 ⟨rfl, s3, hac⟩
      have ht3 := s3 _ _ ht2
      rw [List.length_map, List.take_length] at hac
      refine ⟨acc, ts.map Tx.okNum, rfl, SqL.of hac, ?_⟩
      have eA : (ts.map Tx.okNum).all id = ts.all Tx.okNum := by rw [List.all_map]; rfl
      rw [eA]
      cases hA : ts.all Tx.okNum with
      | false =>
        walk_at "rd"
        exact q0 hA _ (s12.trans s3)
      | true =>
        walk_at "rd"
        intro ac2 n4
        refine comp_list (xs := ts.map V.str) (fun i ys H4 => ys = ((ts.take i).map Tx.val).map V.int ∧ Same H3 H4 ∧ H4 ac2 = some (.lst ys)) ?_ ?_ ?_ ?_
        · exact ⟨rfl, Same.new n4 _, upd_same⟩
        · rintro i ys H4 _ ⟨_, s4, _⟩
          exact SqL.of (s4 _ _ ht3)
        · rintro i x ys H4 hi hx ⟨rfl, s4, hac2⟩
          obtain ⟨t, et, rfl⟩ := getN hx
          have htm := hmem t (List.mem_of_getElem? et)
          have hok := List.all_eq_true.mp hA t (List.mem_of_getElem? et)
          have hrd := (Tx.okNum_iff.mp hok).reads
          have hl6 : t.length ≤ 640 := Nat.le_trans (Tx.okNum_iff.mp hok).l2 (by decide)
          have hsz : (((ts.take i).map Tx.val).map V.int).length < sizeLine := by rw [List.length_map, List.length_map, List.length_take, sizeLine_eq]; omega
          walk_at "rd"
          refine cstep hi ⟨?_, s4.mut n4, upd_same⟩
          rw [List.take_succ, et, List.map_append, List.map_append]
          rfl
        · rintro ys H4 ⟨rfl, s4, hac2⟩
          rw [List.length_map, List.take_length] at hac2
          exact q1 hA ac2 _ ((s12.trans s3).trans s4) ((s12.trans s3).free n4) hac2
  · have en : decide (V.str p = V.str z) = false := decide_eq_false fun e => hpz (V.str.inj e)
    rw [decide_eq_false hpz, Bool.false_and] at q0
    walk_at "rd"
    rw [en]
    walk_at "rd"
    exact q0 rfl _ s12
/-! ### whether the numbers may stand there -/
noncomputable def fitB (z : Str) (ns : List Int) (L : Int) : Bool := if z = "sent" then decide ((ns.length : Int) ≤ L) else if z = "running" then (decide (ns = [0]) || decide (ns = [1])) else decide (ns.length = 1)
theorem eq_one (ns : List Int) (k : Int) : okVs (ns.map V.int) [V.int k] = true ∧ eqVs (ns.map V.int) [V.int k] = decide (ns = [k]) := by
  match ns with
  | [] => exact ⟨rfl, rfl⟩
  | [n] =>
    refine ⟨rfl, ?_⟩
    show (eqV (V.int n) (V.int k) && true) = _
    rw [Bool.and_true]
    show decide (n = k) = _
    rw [decide_eq_decide]
    exact ⟨fun e => by rw [e], fun e => (List.cons.inj e).1⟩
  | n :: m :: r =>
    refine ⟨rfl, ?_⟩
    show (eqV (V.int n) (V.int k) && false) = _
    rw [Bool.and_false]
    exact (decide_eq_false fun e => by cases (List.cons.inj e).2).symm
noncomputable def spFitsA (K : PySem.W.Frag) : Sp := fun vs H Q _ => ∃ (z : Str) (a : Addr) (ns : List Int) (L : Int), vs = [.str z, .ref a, .int L] ∧ H a = some (.lst (ns.map V.int)) ∧ ∀ H', Same H H' → Q (.bl (fitB z ns L)) H'
theorem scfits : FnScope ["word", "numbers", "longest"] ["word", "numbers", "longest"] (defScope s_fits) := ⟨rfl, rfl, rfl, by decide +kernel, rfl, by decide +kernel, by decide +kernel⟩
theorem ok_fits {f : Addr} {fd : FuncData} (F : Fun K "fits" "fits" s_fits f fd) (Z : ZT K mg aW) : FnOk P w K mg base CX0 1 f fd ["word", "numbers", "longest"] (spFitsA K) := by
  refine F.ok scfits (fun vs H Q E h => ?_) (fun cdv A outer s₀ H vs Q E hr h => ?_)
  · obtain ⟨z, a, ns, L, rfl, _⟩ := h
    rfl
  obtain ⟨z, a, ns, L, rfl, ha, q⟩ := h
  have hu0 := hr.units0
  have hl : ((ns.map V.int).length : Int) = (ns.length : Nat) := by rw [List.length_map]
  refine ⟨_, (@pss_cons _ _ _ _ _ (@ps_if _ _ _ _ _ _ _ _ (@pt_cmpR _ _ _ _ _ _ _ _ op_eq (@pv _ 0 _ _ rfl (by walk_at "o") (by decide) (by decide)) (@pe_str _ _ _ _) (nomark _)) (@pss_one _ _ _ (@ps_ret _ _ _ _ (@pe_cmpR _ _ _ _ _ _ _ _ op_le (@pe_callB _ _ _ _ _ _ _ _ _ call_len_seq rfl Z.len (by decide +kernel) (@pa_cons _ _ _ _ _ (@pv _ 1 _ _ rfl (by walk_at "o") (by decide) (by decide)) (@pa_nil _) (by walk_at "g")) (by decide) (by decide) (by walk_at "g") rfl) (@pv _ 2 _ _ rfl (by walk_at "o") (by decide) (by decide)) (nomark _)))) (@pss_nil _)) (@pss_cons _ _ _ _ _ (@ps_if _ _ _ _ _ _ _ _ (@pt_cmpR _ _ _ _ _ _ _ _ op_eq (@pv _ 0 _ _ rfl (by walk_at "o") (by decide) (by decide)) (@pe_str _ _ _ _) (nomark _)) (@pss_one _ _ _ (@ps_ret _ _ _ _ (@pe_or _ _ _ _ _ _ _ (@pe_cmpR _ _ _ _ _ _ _ _ (op_eq_list hu0) (@pv _ 1 _ _ rfl (by walk_at "o") (by decide) (by decide)) (@pe_lst _ _ _ _ (@pa_cons _ _ _ _ _ (@pe_int _ _ _ _) (@pa_nil _) (by walk_at "g"))) (nomark _)) (@pe_one _ _ _ _ _ (@pe_cmpR _ _ _ _ _ _ _ _ (op_eq_list hu0) (@pv _ 1 _ _ rfl (by walk_at "o") (by decide) (by decide)) (@pe_lst _ _ _ _ (@pa_cons _ _ _ _ _ (@pe_int _ _ _ _) (@pa_nil _) (by walk_at "g"))) (nomark _)))))) (@pss_nil _)) (@pss_one _ _ _ (@ps_ret _ _ _ _ (@pe_cmpR _ _ _ _ _ _ _ _ op_eq (@pe_callB _ _ _ _ _ _ _ _ _ call_len_seq rfl Z.len (by decide +kernel) (@pa_cons _ _ _ _ _ (@pv _ 1 _ _ rfl (by walk_at "o") (by decide) (by decide)) (@pa_nil _) (by walk_at "g")) (by decide) (by decide) (by walk_at "g") rfl) (@pe_int _ _ _ _) (nomark _)))))), ?_⟩
  by_cases h1 : z = "sent"
  · subst h1
    have d : fitB (Str.ofString "sent") ns L = decide (((ns.map V.int).length : Int) ≤ L) := by unfold fitB; rw [if_pos rfl, hl]
    rw [d] at q
    walk_at "rd"
    exact q H Same.refl'
  · have d1 : decide (V.str z = V.str (Str.ofString "sent")) = false := decide_eq_false fun e => h1 (V.str.inj e)
    by_cases h2 : z = "running"
    · subst h2
      have d : fitB (Str.ofString "running") ns L = (decide (ns = [0]) || decide (ns = [1])) := by unfold fitB; rw [if_neg h1, if_pos rfl]
      obtain ⟨o0, e0⟩ := eq_one ns 0
      obtain ⟨o1, e1⟩ := eq_one ns 1
      rw [d] at q
      have e0' : (if (false : Bool) = true then !eqVs (ns.map V.int) [V.int 0] else eqVs (ns.map V.int) [V.int 0]) = decide (ns = [0]) := e0
      have e1' : (if (false : Bool) = true then !eqVs (ns.map V.int) [V.int 1] else eqVs (ns.map V.int) [V.int 1]) = decide (ns = [1]) := e1
      walk_at "rd"
      intro p1 n1
      refine ⟨a, p1, ns.map V.int, [.int 0], rfl, rfl, SqL.of (at_new n1 ha), SqL.of upd_same, o0, ?_⟩
      rw [e0']
      by_cases h0 : ns = [0]
      · rw [decide_eq_true h0] at q ⊢
        walk_at "rd"
        exact q _ (Same.new n1 _)
      · rw [decide_eq_false h0] at q ⊢
        walk_at "rd"
        intro p2 n2
        refine ⟨a, p2, ns.map V.int, [.int 1], rfl, rfl, SqL.of (at_new n2 (at_new n1 ha)), SqL.of upd_same, o1, ?_⟩
        rw [e1']
        exact q _ ((Same.new n1 _).trans (Same.new n2 _))
    · have d2 : decide (V.str z = V.str (Str.ofString "running")) = false := decide_eq_false fun e => h2 (V.str.inj e)
      have d : fitB z ns L = decide (V.int ((ns.map V.int).length : Int) = V.int 1) := by
        unfold fitB
        rw [if_neg h1, if_neg h2, hl, decide_eq_decide]
        exact ⟨fun e => by rw [e]; rfl, fun e => by have := V.int.inj e; omega⟩
      rw [d] at q
      walk_at "rd"
      rw [d1]
      walk_at "rd"
      rw [d2]
      walk_at "rd"
      exact q H Same.refl'
end
end Sp

set_option Elab.async false
set_option linter.all false
set_option maxRecDepth 100000
set_option maxHeartbeats 4000000


namespace Sp
open PySem L2
section
variable {P : Program} {w : World} {K : PySem.W.Frag} {mg : Str → Option Value} {base : Heap} {CP CD CB CL CN CS CO aW fI : Addr}
/-! ### BadSave -/
structure ZBS (K : PySem.W.Frag) (mg : Str → Option Value) (CS fI : Addr) : Prop where
  x : ExcI K CS fI
  a : ExcA K CS
  n : NoAttr K CS "line"
  k : PySem.W.ktsIn K CS "BaseException" = true
  m : mg "BadSave" = some (.ref CS)
noncomputable def spBSI (CS : Addr) : Sp := fun vs H Q _ => ∃ (e t : Addr) (v : V), vs = [.ref e, v] ∧ H e = some (exZ e CS t none) ∧ ∀ dd, H dd = none → dd ≠ e → Q .non (upd (upd H dd (.xd [("line", v)])) e (exZ e CS t (some dd)))
theorem scBadSave_init : FnScope ["self", "line"] ["self", "line"] (defScope s_BadSave_init) := ⟨rfl, rfl, rfl, by decide +kernel, rfl, by decide +kernel, by decide +kernel⟩
theorem ok_BadSave_init {f : Addr} {fd : FuncData} (F : Fun K "__init__" "BadSave.__init__" s_BadSave_init f fd) (ZS : ZBS K mg CS fI) : FnOk P w K mg base CX0 1 f fd ["self", "line"] (spBSI CS) := by
  refine F.ok scBadSave_init (fun vs H Q E h => ?_) (fun cdv A outer s₀ H vs Q E hr h => ?_)
  · obtain ⟨e, t, v, rfl, _⟩ := h
    rfl
  obtain ⟨e, t, v, rfl, he, q⟩ := h
  refine ⟨_, (pss_one (ps_fldE (pv (i := 0) rfl) (pv (i := 1) rfl) rfl)), ?_⟩
  exact ⟨v, rfl, _, rfl, e, CS, t, rfl, he, ZS.a, ZS.n, fun dd nd ned => q dd nd ned⟩
structure BSI (P : Program) (w : World) (K : PySem.W.Frag) (mg : Str → Option Value) (base : Heap) (CS fI : Addr) (fdI : FuncData) : Prop where
  ok : FnOk P w K mg base CX0 1 fI fdI ["self", "line"] (spBSI CS)
  b : Binds K fdI ["self", "line"] []
theorem same_raise {H H1 : Hp} {x dd : Addr} {o u u' : HO} (s : Same H H1) (nx : H1 x = none) (nd : (upd H1 x u) dd = none) : Same H (del (upd (upd (upd H1 x u) dd o) x u') x) ∧ (del (upd (upd (upd H1 x u) dd o) x u') x) dd = some o := by
  have ndx : dd ≠ x := fun z => by rw [z, upd_same] at nd; cases nd
  rw [upd_ne ndx] at nd
  refine ⟨fun c v ec => ?_, ?_⟩
  · have e1 := s c v ec
    have n1 : c ≠ x := ne_of_none e1 nx
    have n2 : c ≠ dd := ne_of_none e1 nd
    rw [del_ne n1, upd_ne n1, upd_ne n2, upd_ne n1]
    exact e1
  · rw [del_ne ndx, upd_ne ndx, upd_same]
theorem bs_raise {H H1 : Hp} {E : XK} {n : Int} (ZS : ZBS K mg CS fI) (s : Same H H1) (e : ∀ dd H', Same H H' → H' dd = some (.xd [("line", .int n)]) → E (.ref CS) (some dd) H') : ∀ x tt, H1 x = none → spBSI CS [.ref x, .int n] (upd H1 x (exZ x CS tt none))
    (fun v H2 => v = .non ∧ ∃ a C t dd, V.ref x = .ref a ∧ H2 a = some (exZ a C t dd) ∧ H a = none ∧ PySem.W.ktsIn K C "BaseException" = true ∧ E (.ref C) dd (del H2 a)) E0 := fun x tt nx =>
  ⟨x, tt, .int n, rfl, upd_same, fun dd nd _ => ⟨rfl, x, CS, tt, some dd, rfl, upd_same, s.free nx, ZS.k, e dd _ (same_raise s nx nd).1 (same_raise s nx nd).2⟩⟩
/-! ### which line is wrong -/
noncomputable def lineAt (lines : List Str) (L : Int) (k : Nat) : Bool := match lines[k]?, words9[k]? with
  | some z, some w => lnOk w z && fitB w (rowOf z) L
  | _, _ => false
noncomputable def due (lines : List Str) (L : Int) : Int := match (List.range 9).find? (fun k => !lineAt lines L k) with
  | some k => (k : Int) + 1
  | none => if lines.length = 9 then 0 else 10
theorem due_at {lines : List Str} {L : Int} {i : Nat} (hi : i < 9) (h : ∀ k, k < i → lineAt lines L k = true) (hf : lineAt lines L i = false) : due lines L = (i : Int) + 1 := by
  unfold due
  have e : (List.range 9).find? (fun k => !lineAt lines L k) = some i := List.find?_range_eq_some.mpr ⟨by simp [hf], List.mem_range.mpr hi, fun j hj => by simp [h j hj]⟩
  rw [e]
theorem due_all {lines : List Str} {L : Int} (h : ∀ k, k < 9 → lineAt lines L k = true) : due lines L = if lines.length = 9 then 0 else 10 := by
  unfold due
  have e : (List.range 9).find? (fun k => !lineAt lines L k) = none := List.find?_range_eq_none.mpr fun i hi => by simp [h i hi]
  rw [e]
theorem lineAt_lt {lines : List Str} {L : Int} {k : Nat} (h : lineAt lines L k = true) : k < lines.length := by
  unfold lineAt at h
  cases e : lines[k]? with
  | none => rw [e] at h; cases h
  | some z => exact (List.getElem?_eq_some_iff.mp e).1
noncomputable def spRowsA (K : PySem.W.Frag) (CS : Addr) : Sp := fun vs H Q E => ∃ (a : Addr) (lines : List Str) (L : Int), vs = [.ref a, .int L] ∧ H a = some (.lst (lines.map V.str)) ∧ (∀ z ∈ lines, z.length ≤ 900) ∧ lines.length ≤ 1000 ∧
  (due lines L = 0 → ∀ l rr H', Same H H' → H l = none → H' l = some (.lst (rr.map V.ref)) → RowsAt H' rr (lines.map rowOf) → Q (.ref l) H') ∧
  (due lines L ≠ 0 → ∀ dd H', Same H H' → H' dd = some (.xd [("line", .int (due lines L))]) → E (.ref CS) (some dd) H')
theorem scrows_of : FnScope ["lines", "longest", "rows", "place", "word", "numbers"] ["lines", "longest"] (defScope s_rows_of) := ⟨rfl, rfl, rfl, by decide +kernel, rfl, by decide +kernel, by decide +kernel⟩
theorem ok_rows_of {f f1 f2 : Addr} {fd fd1 fd2 fdI : FuncData} (F : Fun K "rows_of" "rows_of" s_rows_of f fd) (Z : ZT K mg aW) (ZS : ZBS K mg CS fI) (B_numbers_of : Fn P w K mg base CX0 2 "numbers_of" ["word", "line"] (spNumsA K) f1 fd1) (B_fits : Fn P w K mg base CX0 1 "fits" ["word", "numbers", "longest"] (spFitsA K) f2 fd2)
    (B_BSI : BSI P w K mg base CS fI fdI) : FnOk P w K mg base (CXE P w) 3 f fd ["lines", "longest"] (spRowsA K CS) := by
  refine F.okX scrows_of (fun vs H Q E h => ?_) (fun cdv A outer s₀ H vs Q E hr h => ?_)
  · obtain ⟨a, s, L, rfl, _⟩ := h
    rfl
  obtain ⟨a, lines, L, rfl, ha, hz, hn, q, e⟩ := h
  have hll : ((lines.map V.str).length : Int) = (lines.length : Nat) := by rw [List.length_map]
  have hwl : ((words9.map V.str).length : Int) = 9 := rfl
  refine ⟨_, (@pss_cons _ _ _ _ _ (@ps_set _ _ (2) _ _ _ _ scrows_of.nd rfl (Or.inl rfl) (@pe_lst _ _ _ _ (@pa_nil _)) (by walk_at "g") (by walk_at "f")) (@pss_cons _ _ _ _ _ (@ps_for _ _ _ _ _ _ _ _ (passesOwn_fn own_cxOf) rfl (@pi_enum _ _ _ _ _ _ _ _ rfl Z.enumerate (@pa_cons _ _ _ _ _ (@pe_glob _ _ (.ref _) _ _ rfl Z.WORDS rfl (by decide)) (@pa_nil _) (by walk_at "g")) (by walk_at "g") (by walk_at "g")) (@pg_tup _ _ _ _ _ _ rfl (@pgs_cons _ _ _ _ _ (@pg_name _ _ (3) _ scrows_of.nd rfl (Or.inl rfl) (by walk_at "f")) (@pgs_cons _ _ _ _ _ (@pg_name _ _ (4) _ scrows_of.nd rfl (Or.inl rfl) (by walk_at "f")) (@pgs_nil _) (by walk_at "g")) (by walk_at "g")) (by rfl) (by rfl)) (@pss_cons _ _ _ _ _ (@ps_if _ _ _ _ _ _ _ _ (@pt_cmpR _ _ _ _ _ _ _ _ op_ge (@pv _ 3 _ _ rfl (by walk_at "o") (by decide) (by decide)) (@pe_callB _ _ _ _ _ _ _ _ _ call_len_seq rfl Z.len (by decide +kernel) (@pa_cons _ _ _ _ _ (@pv _ 0 _ _ rfl (by walk_at "o") (by decide) (by decide)) (@pa_nil _) (by walk_at "g")) (by decide) (by decide) (by walk_at "g") rfl) (nomark _)) (@pss_one _ _ _ (@ps_raiseV _ _ _ _ _ (raisesV_fn own_cxOf) rfl (@pe_makeE _ _ _ _ _ _ _ _ _ _ _ _ _ ZS.x B_BSI.ok (Room.mono hr (by decide)) rfl ZS.m B_BSI.b (@pa_cons _ _ _ _ _ (@pe_op _ _ _ _ _ _ _ _ op_add (@pv _ 3 _ _ rfl (by walk_at "o") (by decide) (by decide)) (@pe_int _ _ _ _)) (@pa_nil _) (by walk_at "g")) (by decide) (by walk_at "g") rfl))) (@pss_nil _)) (@pss_cons _ _ _ _ _ (@ps_set _ _ (5) _ _ _ _ scrows_of.nd rfl (Or.inl rfl) (@pe_call _ _ _ _ _ _ _ _ _ _ _ _ _ _ _ _ B_numbers_of.ok (Room.mono hr (by decide)) rfl B_numbers_of.m B_numbers_of.kp B_numbers_of.b .nil pass0 (@pa_cons _ _ _ _ _ (@pv _ 4 _ _ rfl (by walk_at "o") (by decide) (by decide)) (@pa_cons _ _ _ _ _ (@pe_ix _ _ _ _ _ _ _ ix_list (@pv _ 0 _ _ rfl (by walk_at "o") (by decide) (by decide)) (@pv _ 3 _ _ rfl (by walk_at "o") (by decide) (by decide)) (fun _ _ => rfl)) (@pa_nil _) (by walk_at "g")) (by walk_at "g")) (by decide) (by walk_at "g") rfl) (by walk_at "g") (by walk_at "f")) (@pss_cons _ _ _ _ _ (@ps_if _ _ _ _ _ _ _ _ (PW.pt (@pw_or _ _ _ _ _ _ _ (@pt_cmpR _ _ _ _ _ _ _ _ op_isN (@pv _ 5 _ _ rfl (by walk_at "o") (by decide) (by decide)) (@pe_non _ _ _) (nomark _)) (@pw_or1 _ _ _ _ (@pt_not _ _ _ _ (@pt_val _ _ _ (@pe_call _ _ _ _ _ _ _ _ _ _ _ _ _ _ _ _ B_fits.ok (Room.mono hr (by decide)) rfl B_fits.m B_fits.kp B_fits.b .nil pass0 (@pa_cons _ _ _ _ _ (@pv _ 4 _ _ rfl (by walk_at "o") (by decide) (by decide)) (@pa_cons _ _ _ _ _ (@pv _ 5 _ _ rfl (by walk_at "o") (by decide) (by decide)) (@pa_cons _ _ _ _ _ (@pv _ 1 _ _ rfl (by walk_at "o") (by decide) (by decide)) (@pa_nil _) (by walk_at "g")) (by walk_at "g")) (by walk_at "g")) (by decide) (by walk_at "g") rfl) (by walk_at "g")))))) (@pss_one _ _ _ (@ps_raiseV _ _ _ _ _ (raisesV_fn own_cxOf) rfl (@pe_makeE _ _ _ _ _ _ _ _ _ _ _ _ _ ZS.x B_BSI.ok (Room.mono hr (by decide)) rfl ZS.m B_BSI.b (@pa_cons _ _ _ _ _ (@pe_op _ _ _ _ _ _ _ _ op_add (@pv _ 3 _ _ rfl (by walk_at "o") (by decide) (by decide)) (@pe_int _ _ _ _)) (@pa_nil _) (by walk_at "g")) (by decide) (by walk_at "g") rfl))) (@pss_nil _)) (@pss_one _ _ _ (@ps_expr _ _ _ _ (@pe_bm _ _ _ _ _ _ _ _ _ _ _ _ PySem.F.plainAttrs_list PySem.F.slot_list_append PySem.F.type_list_append mt_append (@pv _ 2 _ _ rfl (by walk_at "o") (by decide) (by decide)) (@pa_cons _ _ _ _ _ (@pv _ 5 _ _ rfl (by walk_at "o") (by decide) (by decide)) (@pa_nil _) (by walk_at "g")) (by walk_at "g") (by walk_at "g") (by walk_at "g") (by walk_at "g") (by walk_at "g")) (by walk_at "g")))))) (by walk_at "g")) (@pss_cons _ _ _ _ _ (@ps_if _ _ _ _ _ _ _ _ (@pt_cmpR _ _ _ _ _ _ _ _ op_gt (@pe_callB _ _ _ _ _ _ _ _ _ call_len_seq rfl Z.len (by decide +kernel) (@pa_cons _ _ _ _ _ (@pv _ 0 _ _ rfl (by walk_at "o") (by decide) (by decide)) (@pa_nil _) (by walk_at "g")) (by decide) (by decide) (by walk_at "g") rfl) (@pe_callB _ _ _ _ _ _ _ _ _ call_len_seq rfl Z.len (by decide +kernel) (@pa_cons _ _ _ _ _ (@pe_glob _ _ (.ref _) _ _ rfl Z.WORDS rfl (by decide)) (@pa_nil _) (by walk_at "g")) (by decide) (by decide) (by walk_at "g") rfl) (nomark _)) (@pss_one _ _ _ (@ps_raiseV _ _ _ _ _ (raisesV_fn own_cxOf) rfl (@pe_makeE _ _ _ _ _ _ _ _ _ _ _ _ _ ZS.x B_BSI.ok (Room.mono hr (by decide)) rfl ZS.m B_BSI.b (@pa_cons _ _ _ _ _ (@pe_op _ _ _ _ _ _ _ _ op_add (@pe_callB _ _ _ _ _ _ _ _ _ call_len_seq rfl Z.len (by decide +kernel) (@pa_cons _ _ _ _ _ (@pe_glob _ _ (.ref _) _ _ rfl Z.WORDS rfl (by decide)) (@pa_nil _) (by walk_at "g")) (by decide) (by decide) (by walk_at "g") rfl) (@pe_int _ _ _ _)) (@pa_nil _) (by walk_at "g")) (by decide) (by walk_at "g") rfl))) (@pss_nil _)) (@pss_one _ _ _ (@ps_ret _ _ _ _ (@pv _ 2 _ _ rfl (by walk_at "o") (by decide) (by decide))))))), ?_⟩
  walk_at "rd"
  intro l nl
  have s1 := Same.new nl (.lst [])
  have hW := Z.words (upd H l (.lst []))
  walk_at "rd"
  refine for_enum (xs := words9.map V.str) (fun i σ H3 => ∃ v3 v4 v5 rr, σ = [some (.ref a), some (.int L), some (.ref l), v3, v4, v5] ∧ Same H H3 ∧ H3 l = some (.lst (rr.map V.ref)) ∧ RowsAt H3 rr ((lines.take i).map rowOf) ∧ (∀ r ∈ rr, r ≠ l) ∧ ∀ k, k < i → lineAt lines L k = true) ?_ ?_ ?_ ?_
  · exact ⟨none, none, none, [], rfl, s1, upd_same, ⟨rfl, fun i r z => by simp at z⟩, fun r h => by simp at h, fun k h => absurd h (Nat.not_lt_zero k)⟩
  · rintro i σ H3 _ ⟨v3, v4, v5, rr, rfl, _⟩
    exact Z.words _
  · rintro i x T σ H3 hx ⟨v3, v4, v5, rr, rfl, s3, hl, hR, hne, hG⟩ nT
    obtain ⟨z, ez, rfl⟩ : ∃ z, words9[i]? = some z ∧ x = .str z := by
      rw [List.getElem?_map] at hx
      cases e : words9[i]? with
      | none => rw [e] at hx; cases hx
      | some z => rw [e] at hx; exact ⟨z, rfl, (Option.some.inj hx).symm⟩
    have hi9 : i < 9 := (List.getElem?_eq_some_iff.mp ez).1
    have s4 := s3.trans (Same.new nT (.tup [.int i, .str z]))
    have ha4 := s4 _ _ ha
    have hrl := hR.len
    rw [List.length_map, List.length_take] at hrl
    have hl4 := at_new (o := .tup [.int i, .str z]) nT hl
    have hR4 := hR.same (Same.new nT (.tup [.int i, .str z]))
    have bad : lineAt lines L i = false → ∀ dd H', Same H H' → H' dd = some (.xd [("line", .int ((i : Int) + 1))]) → E (.ref CS) (some dd) H' := fun hf => by
      have ed := due_at hi9 hG hf
      rw [← ed]
      exact e (by rw [ed]; omega)
    by_cases hil : i < lines.length
    · obtain ⟨y, ey⟩ : ∃ y, lines[i]? = some y := ⟨_, List.getElem?_eq_getElem hil⟩
      have hat : atI (lines.map V.str) (i : Int) = some (.str y) := atI_nat (by rw [List.getElem?_map, ey]; rfl)
      have hy := hz y (List.mem_of_getElem? ey)
      have eA : lineAt lines L i = (lnOk z y && fitB z (rowOf y) L) := by unfold lineAt; rw [ey, ez]
      walk_at "rd"
      refine ⟨fun hf H5 s5 => ?_, fun ht l5 H5 s5 n5 h5 => ?_⟩
      · have hbad := bad (by rw [eA, hf]; rfl)
        walk_at "rd"
        exact bs_raise ZS (s4.trans s5) hbad
      · have nl5 : l5 ≠ l := (ne_of_none hl4 n5).symm
        have hl5 := s5 _ _ hl4
        rw [ht, Bool.true_and] at eA
        walk_at "rd"
        refine ⟨z, l5, rowOf y, L, rfl, h5, fun H6 s6 => ?_⟩
        have hl6 := s6 _ _ hl5
        have h6 := s6 _ _ h5
        have hsz : (rr.map V.ref).length < sizeLine := by rw [List.length_map, sizeLine_eq]; omega
        cases hfit : fitB z (rowOf y) L with
        | false =>
          have hbad := bad (by rw [eA, hfit])
          walk_at "rd"
          exact bs_raise ZS ((s4.trans s5).trans s6) hbad
        | true =>
          walk_at "rd"
          refine ⟨_, _, _, rr ++ [l5], rfl, ((s4.trans s5).trans s6).mut nl, by rw [upd_same, List.map_append]; rfl, ?_, fun r h => ?_, fun k hk => ?_⟩
          · have e2 : (lines.take (i + 1)).map rowOf = (lines.take i).map rowOf ++ [rowOf y] := by rw [List.take_succ, ey, List.map_append]; rfl
            rw [e2]
            refine RowsAt.mut (((hR4.same s5).same s6).app h6) fun r h => ?_
            rcases List.mem_append.mp h with h | h
            · exact hne r h
            · rw [List.mem_singleton.mp h]; exact nl5
          · rcases List.mem_append.mp h with h | h
            · exact hne r h
            · rw [List.mem_singleton.mp h]; exact nl5
          · by_cases hki : k < i
            · exact hG k hki
            · rw [show k = i by omega, eA, hfit]
    · have hbad := bad (by unfold lineAt; rw [List.getElem?_eq_none (by omega)])
      walk_at "rd"
      exact bs_raise ZS s4 hbad
  · rintro σ H3 ⟨v3, v4, v5, rr, rfl, s3, hl, hR, hne, hG⟩
    have ha3 := s3 _ _ ha
    have hW3 := Z.words H3
    have hG9 : ∀ k, k < 9 → lineAt lines L k = true := hG
    have h8 := lineAt_lt (hG9 8 (by decide))
    have ed := due_all hG9
    by_cases h9 : lines.length = 9
    · rw [if_pos h9] at ed
      have e9 : lines.take (words9.map V.str).length = lines := List.take_of_length_le (by rw [h9]; exact Nat.le_refl 9)
      rw [e9] at hR
      walk_at "rd"
      exact q ed l rr H3 s3 nl hl hR
    · rw [if_neg h9] at ed
      have hbad : ∀ dd H', Same H H' → H' dd = some (.xd [("line", .int 10)]) → E (.ref CS) (some dd) H' := by
        rw [← ed]
        exact e (by rw [ed]; decide)
      walk_at "rd"
      exact bs_raise ZS s3 hbad
end
end Sp

set_option Elab.async false
set_option linter.all false
set_option maxRecDepth 100000
set_option maxHeartbeats 4000000


namespace Sp
open PySem L2
section
variable {P : Program} {w : World} {K : PySem.W.Frag} {mg : Str → Option Value} {base : Heap} {CP CD CB CL CN CS CO aW fI : Addr}
theorem SqT.but {H H' : Hp} {a p q : Addr} {u v : HO} {xs : List V} (h : SqT K H a xs) (ep : H p = some u) (hu : Mut (some u)) (eq : H q = some v) (hv : Mut (some v)) (b : But p q H H') : SqT K H' a xs := by
  rcases h with h | h
  · refine .inl ?_
    rcases h with h | ⟨ob, h⟩
    · refine .inl (b _ _ (fun z => ?_) (fun z => ?_) h)
      · subst z; rw [ep] at h; cases h; exact hu
      · subst z; rw [eq] at h; cases h; exact hv
    · refine .inr ⟨ob, b _ _ (fun z => ?_) (fun z => ?_) h⟩
      · subst z; rw [ep] at h; cases h; exact hu
      · subst z; rw [eq] at h; cases h; exact hv
  · exact .inr h
theorem Tups.but {H H' : Hp} {rs : List Addr} {ps : List Part} {p q : Addr} {u v : HO} (t : Tups K H rs ps) (ep : H p = some u) (hu : Mut (some u)) (eq : H q = some v) (hv : Mut (some v)) (b : But p q H H') : Tups K H' rs ps := ⟨t.len, fun i r z => SqT.but (t.at_ i r z) ep hu eq hv b⟩
theorem RT.but {H H' : Hp} {rs : List Addr} {ps : List Rule} {p q : Addr} {u v : HO} (t : RT K H rs ps) (ep : H p = some u) (hu : Mut (some u)) (eq : H q = some v) (hv : Mut (some v)) (b : But p q H H') : RT K H' rs ps := ⟨t.len, fun i r z => SqT.but (t.at_ i r z) ep hu eq hv b⟩
/-! ### lines without a fault are those of a pump -/
theorem row_back {w y : Str} (h : lnOk w y = true) : y = Tx.line w (rowOf y) ∧ ∀ n ∈ rowOf y, 0 ≤ n ∧ n < 10 ^ 15 := by
  obtain ⟨h1, h2⟩ := Bool.and_eq_true_iff.mp h
  have h1 := of_decide_eq_true h1
  have h2 := List.all_eq_true.mp h2
  have ej := Tx.cut_join y
  unfold rowOf Tx.line
  cases e : Tx.cut y with
  | nil => exact absurd e (Tx.cut_pos y)
  | cons p ts =>
    rw [e] at h1 h2 ej
    have ep : p = w := Option.some.inj h1
    subst ep
    have h2 : ∀ t ∈ ts, Tx.okNum t = true := h2
    have eb : (ts.map Tx.val).map Tx.num = ts := by
      rw [List.map_map]
      conv => rhs; rw [← List.map_id ts]
      exact List.map_congr_left fun t ht => (Tx.okNum_iff.mp (h2 t ht)).back
    refine ⟨?_, fun n hn => ?_⟩
    · show y = Txt.join Tx.sp (p :: (ts.map Tx.val).map Tx.num)
      rw [eb]
      exact ej.symm
    · obtain ⟨t, ht, rfl⟩ := List.mem_map.mp (show n ∈ ts.map Tx.val from hn)
      exact (Tx.okNum_iff.mp (h2 t ht)).lt
theorem at_get {lines : List Str} {L : Int} {k : Nat} {y w : Str} (h : lineAt lines L k = true) (ey : lines[k]? = some y) (ew : words9[k]? = some w) : lnOk w y = true ∧ fitB w (rowOf y) L = true := by
  unfold lineAt at h
  rw [ey, ew] at h
  exact Bool.and_eq_true_iff.mp h
theorem one_of {ns : List Int} (h : ns.length = 1) : ∃ n, ns = [n] := by
  match ns, h with
  | [n], _ => exact ⟨n, rfl⟩
theorem fit_one {w : Str} {ns : List Int} {L : Int} (h : fitB w ns L = true) (h1 : w ≠ "sent") (h2 : w ≠ "running") : ∃ n, ns = [n] := by
  unfold fitB at h
  rw [if_neg h1, if_neg h2] at h
  exact one_of (of_decide_eq_true h)
theorem fit_run {ns : List Int} {L : Int} (h : fitB "running" ns L = true) : ∃ b : Bool, ns = [if b = true then 1 else 0] := by
  unfold fitB at h
  rw [if_neg (by decide), if_pos rfl] at h
  rcases Bool.or_eq_true_iff.mp h with h | h
  · exact ⟨false, of_decide_eq_true h⟩
  · exact ⟨true, of_decide_eq_true h⟩
theorem fit_sent {ns : List Int} {L : Int} (h : fitB "sent" ns L = true) : (ns.length : Int) ≤ L := by
  unfold fitB at h
  rw [if_pos rfl] at h
  exact of_decide_eq_true h
theorem due_zero {lines : List Str} {L : Int} (hz : ∀ z ∈ lines, z.length ≤ 900) (h : due lines L = 0) : ∃ s : Sd.S, Small s ∧ lines = lines9 s ∧ lines.map rowOf = rows9 s ∧ (s.sent.length : Int) ≤ L := by
  have hall : (∀ k, k < 9 → lineAt lines L k = true) ∧ lines.length = 9 := by
    unfold due at h
    cases e : (List.range 9).find? (fun k => !lineAt lines L k) with
    | some k => rw [e] at h; have h : (k : Int) + 1 = 0 := h; omega
    | none =>
      rw [e] at h
      have hn := List.find?_range_eq_none.mp e
      refine ⟨fun k hk => by simpa using hn k hk, ?_⟩
      by_cases h9 : lines.length = 9
      · exact h9
      · have h : (if lines.length = 9 then (0 : Int) else 10) = 0 := h
        rw [if_neg h9] at h
        exact absurd h (by decide)
  obtain ⟨hG, h9⟩ := hall
  match lines, h9 with
  | [y0, y1, y2, y3, y4, y5, y6, y7, y8], _ =>
    obtain ⟨a0, b0⟩ := at_get (hG 0 (by decide)) rfl rfl
    obtain ⟨a1, b1⟩ := at_get (hG 1 (by decide)) rfl rfl
    obtain ⟨a2, b2⟩ := at_get (hG 2 (by decide)) rfl rfl
    obtain ⟨a3, b3⟩ := at_get (hG 3 (by decide)) rfl rfl
    obtain ⟨a4, b4⟩ := at_get (hG 4 (by decide)) rfl rfl
    obtain ⟨a5, b5⟩ := at_get (hG 5 (by decide)) rfl rfl
    obtain ⟨a6, b6⟩ := at_get (hG 6 (by decide)) rfl rfl
    obtain ⟨a7, b7⟩ := at_get (hG 7 (by decide)) rfl rfl
    obtain ⟨a8, b8⟩ := at_get (hG 8 (by decide)) rfl rfl
    obtain ⟨n0, e0⟩ := fit_one b0 (by decide) (by decide)
    obtain ⟨n1, e1⟩ := fit_run b1
    obtain ⟨n2, e2⟩ := fit_one b2 (by decide) (by decide)
    obtain ⟨n3, e3⟩ := fit_one b3 (by decide) (by decide)
    obtain ⟨n4, e4⟩ := fit_one b4 (by decide) (by decide)
    obtain ⟨n5, e5⟩ := fit_one b5 (by decide) (by decide)
    obtain ⟨n6, e6⟩ := fit_one b6 (by decide) (by decide)
    obtain ⟨n7, e7⟩ := fit_one b7 (by decide) (by decide)
    have e8 := fit_sent b8
    obtain ⟨l0, r0⟩ := row_back a0
    obtain ⟨l1, r1⟩ := row_back a1
    obtain ⟨l2, r2⟩ := row_back a2
    obtain ⟨l3, r3⟩ := row_back a3
    obtain ⟨l4, r4⟩ := row_back a4
    obtain ⟨l5, r5⟩ := row_back a5
    obtain ⟨l6, r6⟩ := row_back a6
    obtain ⟨l7, r7⟩ := row_back a7
    obtain ⟨l8, r8⟩ := row_back a8
    rw [e0] at l0 r0
    rw [e1] at l1 r1
    rw [e2] at l2 r2
    rw [e3] at l3 r3
    rw [e4] at l4 r4
    rw [e5] at l5 r5
    rw [e6] at l6 r6
    rw [e7] at l7 r7
    have sl : (rowOf y8).length ≤ 1000 := by
      have h1 := Tx.jl_cut y8
      have h2 := Tx.jl_len (Tx.cut y8)
      have h3 := hz y8 (by simp)
      unfold rowOf
      rw [List.length_map, List.length_tail]
      omega
    refine ⟨{ now := n0, run := n1, con := n2, wai := n3, ask := n4, mis := n5, tot := n6, fre := n7, sent := rowOf y8 }, ⟨fun n hn => ?_, r8, sl⟩, ?_, ?_, e8⟩
    · have hn : n ∈ [n0, if n1 = true then (1 : Int) else 0, n2, n3, n4, n5, n6, n7] := hn
      simp only [List.mem_cons, List.not_mem_nil, or_false] at hn
      rcases hn with rfl | rfl | rfl | rfl | rfl | rfl | rfl | rfl
      · exact r0 _ (by simp)
      · exact r1 _ (by simp)
      · exact r2 _ (by simp)
      · exact r3 _ (by simp)
      · exact r4 _ (by simp)
      · exact r5 _ (by simp)
      · exact r6 _ (by simp)
      · exact r7 _ (by simp)
    · show [y0, y1, y2, y3, y4, y5, y6, y7, y8] = [Tx.line "now" [n0], Tx.line "running" [if n1 = true then (1 : Int) else 0], Tx.line "content" [n2], Tx.line "waiting" [n3], Tx.line "asked" [n4], Tx.line "missed" [n5], Tx.line "total" [n6], Tx.line "free" [n7], Tx.line "sent" (rowOf y8)]
      rw [← l0, ← l1, ← l2, ← l3, ← l4, ← l5, ← l6, ← l7, ← l8]
    · show [rowOf y0, rowOf y1, rowOf y2, rowOf y3, rowOf y4, rowOf y5, rowOf y6, rowOf y7, rowOf y8] = [[n0], [if n1 = true then (1 : Int) else 0], [n2], [n3], [n4], [n5], [n6], [n7], rowOf y8]
      rw [e0, e1, e2, e3, e4, e5, e6, e7]
/-! ### loaded -/
noncomputable def spSetC (K : PySem.W.Frag) (CP CD : Addr) : Sp := fun vs H Q _ => ∃ (p dx dy rl sn a b : Addr) (rs : List Addr) (g : Cf) (s s' : Sd.S), vs = [.ref p, .ref a, .ref b] ∧ PumpAt K CP CD H p dx dy rl sn rs g s ∧ H a = some (.lst ((cnt s').map V.int)) ∧ H b = some (.lst (s'.sent.map V.int)) ∧
  ∀ sn' H', (∀ c o, c ≠ p → H c = some o → H' c = some o) → H sn' = none → PumpAt K CP CD H' p dx dy rl sn' rs g s' → Q .non H'
theorem PumpAt.new {H H' : Hp} {p dx dy rl sn sn' : Addr} {rs : List Addr} {g : Cf} {s s' : Sd.S} (a : PumpAt K CP CD H p dx dy rl sn rs g s) (k : ∀ c o, c ≠ p → H c = some o → H' c = some o) (ob : H' p = some (.ins CP dx (pumpF (pf g s' dy rl sn')))) (se : H' sn' = some (.lst (s'.sent.map V.int))) (nr : rl ≠ sn') : PumpAt K CP CD H' p dx dy rl sn' rs g s' := by
  obtain ⟨n1, n2, n3, n4⟩ := a.npr
  have b : But p p H H' := fun c o h1 _ e => k c o h1 e
  obtain ⟨dx', pt, sm, rs', h1, ⟨h2, h3⟩, h4⟩ := a.day.ex
  exact ⟨ob, ⟨dx', pt, sm, rs', k _ _ a.npd.symm h1, ⟨SqT.but h2 a.ob True.intro a.ob True.intro b, h3.but a.ob True.intro a.ob True.intro b⟩, SqT.but h4 a.ob True.intro a.ob True.intro b⟩, k _ _ n1.symm a.rls, a.rt.but a.ob True.intro a.ob True.intro b, se, a.npd, nr⟩
theorem scset_counts : FnScope ["pump", "numbers", "sent"] ["pump", "numbers", "sent"] (defScope s_set_counts) := ⟨rfl, rfl, rfl, by decide +kernel, rfl, by decide +kernel, by decide +kernel⟩
theorem ok_set_counts {f : Addr} {fd : FuncData} (F : Fun K "set_counts" "set_counts" s_set_counts f fd) (TPump : TP K CP) (Z : ZT K mg aW) : FnOk P w K mg base CX0 1 f fd ["pump", "numbers", "sent"] (spSetC K CP CD) := by
  refine F.ok scset_counts (fun vs H Q E h => ?_) (fun cdv A outer s₀ H vs Q E hr h => ?_)
  · obtain ⟨p, dx, dy, rl, sn, a, b, rs, g, s, s', rfl, _⟩ := h
    rfl
  obtain ⟨p, dx, dy, rl, sn, a, b, rs, g, s, s', rfl, PA, ha, hb, q⟩ := h
  have ho := PA.ob
  have nap : a ≠ p := ne_of ha ho (by intro z; cases z)
  have nbp : b ≠ p := ne_of hb ho (by intro z; cases z)
  have i0 : atI ((cnt s').map V.int) 0 = some (.int s'.now) := rfl
  have i1 : atI ((cnt s').map V.int) 1 = some (.int (if s'.run = true then 1 else 0)) := rfl
  have i2 : atI ((cnt s').map V.int) 2 = some (.int s'.con) := rfl
  have i3 : atI ((cnt s').map V.int) 3 = some (.int s'.wai) := rfl
  have i4 : atI ((cnt s').map V.int) 4 = some (.int s'.ask) := rfl
  have i5 : atI ((cnt s').map V.int) 5 = some (.int s'.mis) := rfl
  have i6 : atI ((cnt s').map V.int) 6 = some (.int s'.tot) := rfl
  have i7 : atI ((cnt s').map V.int) 7 = some (.int s'.fre) := rfl
  have er : decide (V.int (if s'.run = true then 1 else 0) = V.int 1) = s'.run := by cases s'.run <;> rfl
  refine ⟨_, (@pss_cons _ _ _ _ _ (@ps_fldR _ _ _ _ _ _ _ _ _ _ _ _ _ FPump_now TPump.cl TPump.n_now (@pv _ 0 _ _ rfl (by walk_at "o") (by decide) (by decide)) (@pe_ix _ _ _ _ _ _ _ ix_list (@pv _ 1 _ _ rfl (by walk_at "o") (by decide) (by decide)) (@pe_int _ _ _ _) (fun _ _ => rfl)) (by walk_at "g")) (@pss_cons _ _ _ _ _ (@ps_fldR _ _ _ _ _ _ _ _ _ _ _ _ _ FPump_running TPump.cl TPump.n_running (@pv _ 0 _ _ rfl (by walk_at "o") (by decide) (by decide)) (@pe_cmpR _ _ _ _ _ _ _ _ op_eq (@pe_ix _ _ _ _ _ _ _ ix_list (@pv _ 1 _ _ rfl (by walk_at "o") (by decide) (by decide)) (@pe_int _ _ _ _) (fun _ _ => rfl)) (@pe_int _ _ _ _) (nomark _)) (by walk_at "g")) (@pss_cons _ _ _ _ _ (@ps_fldR _ _ _ _ _ _ _ _ _ _ _ _ _ FPump_content TPump.cl TPump.n_content (@pv _ 0 _ _ rfl (by walk_at "o") (by decide) (by decide)) (@pe_ix _ _ _ _ _ _ _ ix_list (@pv _ 1 _ _ rfl (by walk_at "o") (by decide) (by decide)) (@pe_int _ _ _ _) (fun _ _ => rfl)) (by walk_at "g")) (@pss_cons _ _ _ _ _ (@ps_fldR _ _ _ _ _ _ _ _ _ _ _ _ _ FPump_waiting TPump.cl TPump.n_waiting (@pv _ 0 _ _ rfl (by walk_at "o") (by decide) (by decide)) (@pe_ix _ _ _ _ _ _ _ ix_list (@pv _ 1 _ _ rfl (by walk_at "o") (by decide) (by decide)) (@pe_int _ _ _ _) (fun _ _ => rfl)) (by walk_at "g")) (@pss_cons _ _ _ _ _ (@ps_fldR _ _ _ _ _ _ _ _ _ _ _ _ _ FPump_asked TPump.cl TPump.n_asked (@pv _ 0 _ _ rfl (by walk_at "o") (by decide) (by decide)) (@pe_ix _ _ _ _ _ _ _ ix_list (@pv _ 1 _ _ rfl (by walk_at "o") (by decide) (by decide)) (@pe_int _ _ _ _) (fun _ _ => rfl)) (by walk_at "g")) (@pss_cons _ _ _ _ _ (@ps_fldR _ _ _ _ _ _ _ _ _ _ _ _ _ FPump_missed TPump.cl TPump.n_missed (@pv _ 0 _ _ rfl (by walk_at "o") (by decide) (by decide)) (@pe_ix _ _ _ _ _ _ _ ix_list (@pv _ 1 _ _ rfl (by walk_at "o") (by decide) (by decide)) (@pe_int _ _ _ _) (fun _ _ => rfl)) (by walk_at "g")) (@pss_cons _ _ _ _ _ (@ps_fldR _ _ _ _ _ _ _ _ _ _ _ _ _ FPump_total TPump.cl TPump.n_total (@pv _ 0 _ _ rfl (by walk_at "o") (by decide) (by decide)) (@pe_ix _ _ _ _ _ _ _ ix_list (@pv _ 1 _ _ rfl (by walk_at "o") (by decide) (by decide)) (@pe_int _ _ _ _) (fun _ _ => rfl)) (by walk_at "g")) (@pss_cons _ _ _ _ _ (@ps_fldR _ _ _ _ _ _ _ _ _ _ _ _ _ FPump_free TPump.cl TPump.n_free (@pv _ 0 _ _ rfl (by walk_at "o") (by decide) (by decide)) (@pe_ix _ _ _ _ _ _ _ ix_list (@pv _ 1 _ _ rfl (by walk_at "o") (by decide) (by decide)) (@pe_int _ _ _ _) (fun _ _ => rfl)) (by walk_at "g")) (@pss_one _ _ _ (@ps_fldR _ _ _ _ _ _ _ _ _ _ _ _ _ FPump_sent TPump.cl TPump.n_sent (@pv _ 0 _ _ rfl (by walk_at "o") (by decide) (by decide)) (@pe_callTy _ _ _ _ _ _ _ _ _ call_list_of rfl Z.list (by decide +kernel) (@pa_cons _ _ _ _ _ (@pv _ 2 _ _ rfl (by walk_at "o") (by decide) (by decide)) (@pa_nil _) (by walk_at "g")) (by decide) (by decide) (by walk_at "g") rfl) (by walk_at "g"))))))))))), ?_⟩
  walk_at "rd"
  intro sn' n'
  simp only [upd_upd] at n' ⊢
  rw [er] at n' ⊢
  have nps : p ≠ sn' := ne_of_none upd_same n'
  have nps' := nps.symm
  have n0 : H sn' = none := by rw [upd_ne nps'] at n'; exact n'
  walk_at "rd"
  have kp : ∀ (X Y : HO) c o, c ≠ p → H c = some o → (upd (upd (upd H p X) sn' (.lst (s'.sent.map V.int))) p Y) c = some o := fun X Y c o h1 e => at_ne h1 (at_ne (ne_of_none e n0) (at_ne h1 e))
  exact q sn' _ (kp _ _) n0 (PA.new (s' := s') (kp _ _) upd_same (at_ne nps' upd_same) (ne_of_none PA.rls n0))
theorem rows_at {s : Sd.S} : ∀ {i : Nat}, i < 8 → ∃ n, (cnt s)[i]? = some n ∧ (rows9 s).getD i [] = [n]
  | 0, _ => ⟨_, rfl, rfl⟩
  | 1, _ => ⟨_, rfl, rfl⟩
  | 2, _ => ⟨_, rfl, rfl⟩
  | 3, _ => ⟨_, rfl, rfl⟩
  | 4, _ => ⟨_, rfl, rfl⟩
  | 5, _ => ⟨_, rfl, rfl⟩
  | 6, _ => ⟨_, rfl, rfl⟩
  | 7, _ => ⟨_, rfl, rfl⟩
  | i + 8, h => absurd h (by omega)
noncomputable def spLoadA (K : PySem.W.Frag) (CP CD CB CS : Addr) : Sp := fun vs H Q E => ∃ (a dy ra : Addr) (rs : List Addr) (g : Cf) (lines : List Str), vs = [.ref a, .ref dy, .ref ra, .int g.lock, .int g.dose, .int g.hold] ∧ H a = some (.lst (lines.map V.str)) ∧ (∀ z ∈ lines, z.length ≤ 900) ∧ lines.length ≤ 1000 ∧
  DayAt K CD H dy g.ticks g.ps ∧ H ra = some (.lst (rs.map V.ref)) ∧ RT K H rs g.rules ∧ (∀ r ∈ g.rules, Bd r.1 ∧ Bd r.2) ∧ g.rules.length ≤ 100 ∧ DayM.Ok g.ticks g.ps ∧ Bd g.lock ∧ Bd g.dose ∧ Bd g.hold ∧
  (g.Ok → due lines (Sd.longest g.rules) = 0 → ∀ p dx rl sn s H', Same H H' → Small s → lines = lines9 s → PumpAt K CP CD H' p dx dy rl sn rs g s → Q (.ref p) H') ∧
  (g.Ok → due lines (Sd.longest g.rules) ≠ 0 → ∀ dd H', Same H H' → H' dd = some (.xd [("line", .int (due lines (Sd.longest g.rules)))]) → E (.ref CS) (some dd) H') ∧
  (¬ g.Ok → ∀ H', Same H H' → E (.ref CB) none H')
theorem scloaded : FnScope ["lines", "day", "rules", "lock", "dose", "hold", "pump", "rows", "last"] ["lines", "day", "rules", "lock", "dose", "hold"] (defScope s_loaded) := ⟨rfl, rfl, rfl, by decide +kernel, rfl, by decide +kernel, by decide +kernel⟩
theorem ok_loaded {f f1 f2 f3 f4 : Addr} {fd fd1 fd2 fd3 fd4 : FuncData} (F : Fun K "loaded" "loaded" s_loaded f fd) (TPump : TP K CP) (Z : ZT K mg aW) (B_Pump : Mc P w K mg base (CXE P w) 3 "Pump" CP ["self", "day", "rules", "lock", "dose", "hold"] (spPumpI K CP CD CB) f1 fd1)
    (B_longest_window : Fn P w K mg base CX0 1 "longest_window" ["rules"] (spLW K) f2 fd2) (B_rows_of : Fn P w K mg base (CXE P w) 3 "rows_of" ["lines", "longest"] (spRowsA K CS) f3 fd3) (B_set_counts : Fn P w K mg base CX0 1 "set_counts" ["pump", "numbers", "sent"] (spSetC K CP CD) f4 fd4) : FnOk P w K mg base (CXE P w) 5 f fd ["lines", "day", "rules", "lock", "dose", "hold"] (spLoadA K CP CD CB CS) := by
  refine F.okX scloaded (fun vs H Q E h => ?_) (fun cdv A outer s₀ H vs Q E hr h => ?_)
  · obtain ⟨a, dy, ra, rs, g, s, rfl, _⟩ := h
    rfl
  obtain ⟨a, dy, ra, rs, g, lines, rfl, ha, hz, hn, D, hra, hT, hbd, h100, od, b1, b2, b3, q, e1', e2'⟩ := h
  refine ⟨_, (@pss_cons _ _ _ _ _ (@ps_set _ _ (6) _ _ _ _ scloaded.nd rfl (Or.inl rfl) (@pe_make _ _ _ _ _ _ _ _ _ _ _ _ _ _ _ _ _ B_Pump.mkk B_Pump.ok (Room.mono hr (by decide)) rfl B_Pump.m B_Pump.b .nil (passes_fn own_cxOf) (@pa_cons _ _ _ _ _ (@pv _ 1 _ _ rfl (by walk_at "o") (by decide) (by decide)) (@pa_cons _ _ _ _ _ (@pv _ 2 _ _ rfl (by walk_at "o") (by decide) (by decide)) (@pa_cons _ _ _ _ _ (@pv _ 3 _ _ rfl (by walk_at "o") (by decide) (by decide)) (@pa_cons _ _ _ _ _ (@pv _ 4 _ _ rfl (by walk_at "o") (by decide) (by decide)) (@pa_cons _ _ _ _ _ (@pv _ 5 _ _ rfl (by walk_at "o") (by decide) (by decide)) (@pa_nil _) (by walk_at "g")) (by walk_at "g")) (by walk_at "g")) (by walk_at "g")) (by walk_at "g")) (by decide) (by walk_at "g") rfl) (by walk_at "g") (by walk_at "f")) (@pss_cons _ _ _ _ _ (@ps_set _ _ (7) _ _ _ _ scloaded.nd rfl (Or.inl rfl) (@pe_call _ _ _ _ _ _ _ _ _ _ _ _ _ _ _ _ B_rows_of.ok (Room.mono hr (by decide)) rfl B_rows_of.m B_rows_of.kp B_rows_of.b .nil (passes_fn own_cxOf) (@pa_cons _ _ _ _ _ (@pv _ 0 _ _ rfl (by walk_at "o") (by decide) (by decide)) (@pa_cons _ _ _ _ _ (@pe_call _ _ _ _ _ _ _ _ _ _ _ _ _ _ _ _ B_longest_window.ok (Room.mono hr (by decide)) rfl B_longest_window.m B_longest_window.kp B_longest_window.b .nil pass0 (@pa_cons _ _ _ _ _ (@pe_fldR _ _ _ _ _ _ _ _ _ _ FPump_rules TPump.cl TPump.n_rules (@pv _ 6 _ _ rfl (by walk_at "o") (by decide) (by decide)) (by walk_at "g")) (@pa_nil _) (by walk_at "g")) (by decide) (by walk_at "g") rfl) (@pa_nil _) (by walk_at "g")) (by walk_at "g")) (by decide) (by walk_at "g") rfl) (by walk_at "g") (by walk_at "f")) (@pss_cons _ _ _ _ _ (@ps_set _ _ (8) _ _ _ _ scloaded.nd rfl (Or.inl rfl) (@pe_op _ _ _ _ _ _ _ _ op_sub (@pe_callB _ _ _ _ _ _ _ _ _ call_len_seq rfl Z.len (by decide +kernel) (@pa_cons _ _ _ _ _ (@pv _ 7 _ _ rfl (by walk_at "o") (by decide) (by decide)) (@pa_nil _) (by walk_at "g")) (by decide) (by decide) (by walk_at "g") rfl) (@pe_int _ _ _ _)) (by walk_at "g") (by walk_at "f")) (@pss_cons _ _ _ _ _ (@ps_expr _ _ _ _ (@pe_call _ _ _ _ _ _ _ _ _ _ _ _ _ _ _ _ B_set_counts.ok (Room.mono hr (by decide)) rfl B_set_counts.m B_set_counts.kp B_set_counts.b .nil pass0 (@pa_cons _ _ _ _ _ (@pv _ 6 _ _ rfl (by walk_at "o") (by decide) (by decide)) (@pa_cons _ _ _ _ _ (@pe_comp _ _ _ _ _ _ (defScope s_loaded) _ (["lines", "day", "rules", "lock", "dose", "hold", "pump", "rows", "last"]) (["lines", "day", "rules", "lock", "dose", "hold", "pump", "rows", "last", "numbers"]) (["numbers"]) _ _ _ _ _ rfl rfl rfl (.of (by decide +kernel)) (@pi_list _ _ _ _ (@pe_slice _ _ _ _ _ _ _ _ _ _ sl_list (@pv _ 7 _ _ rfl (by walk_at "o") (by decide) (by decide)) (@po_none _) (@po_some _ _ _ (@pv _ 8 _ _ rfl (by walk_at "o") (by decide) (by decide))))) takes_name (fun _ _ _ _ _ => @pg_name _ _ (9) _ (show List.Nodup (["lines", "day", "rules", "lock", "dose", "hold", "pump", "rows", "last", "numbers"] : List Str) by decide +kernel) rfl (Or.inl rfl) (by walk_at "f")) (fun _ _ _ _ _ => @pif_nil _) (fun _ _ _ _ _ => (@pe_ix _ _ _ _ _ _ _ (ix_listK (K := K) rfl) (@pv _ 9 _ _ rfl (by walk_at "o") (by decide) (by decide)) (@pe_int _ _ _ _) (fun _ _ => rfl))) (by walk_at "g")) (@pa_cons _ _ _ _ _ (@pe_ix _ _ _ _ _ _ _ ix_list (@pv _ 7 _ _ rfl (by walk_at "o") (by decide) (by decide)) (@pv _ 8 _ _ rfl (by walk_at "o") (by decide) (by decide)) (fun _ _ => rfl)) (@pa_nil _) (by walk_at "g")) (by walk_at "g")) (by walk_at "g")) (by decide) (by walk_at "g") rfl) (by walk_at "g")) (@pss_one _ _ _ (@ps_ret _ _ _ _ (@pv _ 6 _ _ rfl (by walk_at "o") (by decide) (by decide)))))))), ?_⟩
  walk_at "rd"
  intro x dx nx ndx nex
  have s5 : Same H (upd (upd H dx (.own x)) x (.ins CP dx [])) := fun c o ec => by
    rw [upd_ne (ne_of_none ec nx), upd_ne (ne_of_none ec ndx)]
    exact ec
  obtain ⟨dz, pt, smm, rs', hy, _, _⟩ := id D
  refine ⟨x, dx, dy, ra, rs, g, rfl, upd_same, D.same s5, (ne_of_none hy nx).symm, s5 _ _ hra, hT.same s5, hbd, h100, od, b1, b2, b3, fun og rl sn H1 kp nrl nsn PA => ?_, fun no H1 kp => e2' no H1 fun c o ec => kp c o (ne_of_none ec nx) (s5 c o ec)⟩
  have rln := og.r.ln
  have s6 : Same H H1 := fun c o ec => kp c o (ne_of_none ec nx) (s5 c o ec)
  have nrl0 := s5.free nrl
  have ho1 := PA.ob
  have ha1 := s6 _ _ ha
  walk_at "rd"
  refine ⟨rl, rs, g.rules, rfl, SqL.of PA.rls, PA.rt, by omega, by omega, fun H2 s2 => ?_⟩
  have ha2 := s2 _ _ ha1
  walk_at "rd"
  refine ⟨fun hd l rr H3 s3 nl hl hR => ?_, fun hd dd H3 s3 h3 => e1' og hd dd H3 ((s6.trans s2).trans s3) h3⟩
  obtain ⟨s, sm, el, er9, hsl⟩ := due_zero hz hd
  rw [er9] at hR
  have hrl := hR.len
  rw [rows_len] at hrl
  have PA3 := (PA.same s2).same s3
  have hll : ((rr.map V.ref).length : Int) = 9 := by rw [List.length_map, hrl]; rfl
  have h98 : ((rr.map V.ref).length : Int) - 1 = ((8 : Nat) : Int) := by omega
  have hat8 : ∃ r8, rr[8]? = some r8 := ⟨_, List.getElem?_eq_getElem (by omega)⟩
  obtain ⟨r8, e8⟩ := hat8
  have hi8 : atI (rr.map V.ref) (((rr.map V.ref).length : Int) - 1) = some (.ref r8) := by rw [h98]; exact atI_nat (by rw [List.getElem?_map, e8]; rfl)
  have hr8 : H3 r8 = some (.lst (s.sent.map V.int)) := by
    have := hR.at_ 8 r8 e8
    exact this
  have e1 : cutV (rr.map V.ref) none (some (((rr.map V.ref).length : Int) - 1)) = (rr.take 8).map V.ref := by
    rw [h98]
    unfold cutV
    rw [HT.sIx_nat, HT.sIx_none, List.length_map, hrl, List.map_take]
    rfl
  walk_at "rd"
  refine ⟨l, _, rfl, SqL.of hl, fun l4 n4 => ?_⟩
  rw [e1]
  have s4 := Same.new n4 (.lst ((rr.take 8).map V.ref))
  have hl4 : (upd H3 l4 (.lst ((rr.take 8).map V.ref))) l4 = some (.lst ((rr.take 8).map V.ref)) := upd_same
  generalize upd H3 l4 (.lst ((rr.take 8).map V.ref)) = H4 at s4 hl4 ⊢
  have ht8 : ((rr.take 8).map V.ref).length = 8 := by rw [List.length_map, List.length_take, hrl]; rfl
  walk_at "rd"
  intro acc n5
  refine comp_list (xs := (rr.take 8).map V.ref) (fun i ys H5 => ys = ((cnt s).take i).map V.int ∧ Same H4 H5 ∧ H5 acc = some (.lst ys)) ?_ ?_ ?_ ?_
  · exact ⟨rfl, Same.new n5 _, upd_same⟩
  · rintro i ys H5 _ ⟨_, s5', _⟩
    exact SqL.of (s5' _ _ hl4)
  · rintro i xx ys H5 hi hx ⟨rfl, s5', hac⟩
    rw [ht8] at hi
    obtain ⟨n, en, er⟩ := rows_at (s := s) hi
    obtain ⟨r, er2, rfl⟩ : ∃ r, rr[i]? = some r ∧ xx = .ref r := by
      rw [List.getElem?_map, List.getElem?_take, if_pos hi] at hx
      cases e : rr[i]? with
      | none => rw [e] at hx; cases hx
      | some r => rw [e] at hx; exact ⟨r, rfl, (Option.some.inj hx).symm⟩
    have hrow := hR.at_ i r er2
    rw [er] at hrow
    have hrow5 : H5 r = some (.lst [.int n]) := s5' _ _ (s4 _ _ hrow)
    have hsz : (((cnt s).take i).map V.int).length < sizeLine := by rw [List.length_map, List.length_take, sizeLine_eq, cnt_len]; omega
    have a0 : atI [V.int n] 0 = some (.int n) := rfl
    walk_at "rd"
    have e2 : ((cnt s).take i).map V.int ++ [V.int n] = ((cnt s).take (i + 1)).map V.int := by rw [List.take_succ, en, List.map_append]; rfl
    refine cstep (by rw [ht8]; exact hi) ⟨e2, s5'.mut n5, upd_same⟩
  · rintro ys H5 ⟨rfl, s5', hac⟩
    have e3 : (cnt s).take ((rr.take 8).map V.ref).length = cnt s := List.take_of_length_le (by rw [ht8, cnt_len]; exact Nat.le_refl 8)
    rw [e3] at hac
    have s35 := s4.trans s5'
    have hl5 := s35 _ _ hl
    have hr5 := s35 _ _ hr8
    have PA5 := PA3.same s35
    walk_at "rd"
    refine ⟨x, dx, dy, rl, sn, acc, r8, rs, g, s0, s, rfl, PA5, hac, hr5, fun sn' H6 kp6 n6 PA6 => ?_⟩
    walk_at "rd"
    have sAll : Same H H5 := ((s6.trans s2).trans s3).trans s35
    exact q og hd x dx rl sn' s H6 (fun c o ec => kp6 c o (ne_of_none ec nx) (sAll c o ec)) sm el PA6
end
end Sp

set_option Elab.async false
set_option linter.all false
set_option maxRecDepth 100000
set_option maxHeartbeats 4000000


namespace Sp
open PySem L2
section
variable {P : Program} {w : World} {K : PySem.W.Frag} {mg : Str → Option Value} {base : Heap} {CP CD CB CL CN CS CO aW fI : Addr}
noncomputable def spWords : Sp := fun vs H Q _ => vs = [] ∧ ∀ l H', Same H H' → H l = none → H' l = some (.lst (words9.map V.str)) → Q (.ref l) H'
theorem scLwords : FnScope [] [] (defScope s_Lwords) := ⟨rfl, rfl, rfl, by decide +kernel, rfl, by decide +kernel, by decide +kernel⟩
theorem ok_Lwords {f : Addr} {fd : FuncData} (F : Fun K "_law_words" "_law_words" s_Lwords f fd) : FnOk P w K mg base CX0 1 f fd [] spWords := by
  refine F.ok scLwords (fun vs H Q E h => ?_) (fun cdv A outer s₀ H vs Q E hr h => ?_)
  · obtain ⟨rfl, _⟩ := h
    rfl
  obtain ⟨rfl, q⟩ := h
  refine ⟨_, (@pss_one _ _ _ (@ps_ret _ _ _ _ (@pe_lst _ _ _ _ (@pa_cons _ _ _ _ _ (@pe_str _ _ _ _) (@pa_cons _ _ _ _ _ (@pe_str _ _ _ _) (@pa_cons _ _ _ _ _ (@pe_str _ _ _ _) (@pa_cons _ _ _ _ _ (@pe_str _ _ _ _) (@pa_cons _ _ _ _ _ (@pe_str _ _ _ _) (@pa_cons _ _ _ _ _ (@pe_str _ _ _ _) (@pa_cons _ _ _ _ _ (@pe_str _ _ _ _) (@pa_cons _ _ _ _ _ (@pe_str _ _ _ _) (@pa_cons _ _ _ _ _ (@pe_str _ _ _ _) (@pa_nil _) (by walk_at "g")) (by walk_at "g")) (by walk_at "g")) (by walk_at "g")) (by walk_at "g")) (by walk_at "g")) (by walk_at "g")) (by walk_at "g")) (by walk_at "g"))))), ?_⟩
  walk_at "rd"
  intro l nl
  exact q l _ (Same.new nl _) nl upd_same
theorem jl_le {ts : List Str} {k : Nat} (h : ∀ t ∈ ts, t.length ≤ k) : Tx.jl ts ≤ ts.length * (k + 1) := by
  induction ts with
  | nil => exact Nat.zero_le _
  | cons x r ih =>
    have e : Tx.jl (x :: r) = x.length + 1 + Tx.jl r := by simp [Tx.jl]
    have h1 := h x (by simp)
    have h2 := ih fun t ht => h t (List.mem_cons_of_mem _ ht)
    rw [e, List.length_cons, Nat.succ_mul]
    omega
noncomputable def spDrawn (K : PySem.W.Frag) : Sp := fun vs H Q _ => ∃ (a : Addr) (ns : List Int), vs = [.ref a] ∧ SqL K H a (ns.map V.int) ∧ ns.length ≤ 63 ∧ ∀ (l : Addr) (lines : List Str) (H' : Hp), Same H H' → H l = none → (∀ z ∈ lines, z.length ≤ 100) → lines.length = 9 → H' l = some (.lst (lines.map V.str)) → Q (.ref l) H'
theorem scLdrawn : FnScope ["_law_script", "_law_found", "_law_k", "_law_number_here", "_law_sent"] ["_law_script"] (defScope s_Ldrawn) := ⟨rfl, rfl, rfl, by decide +kernel, rfl, by decide +kernel, by decide +kernel⟩
theorem ok_Ldrawn {f f1 f2 : Addr} {fd fd1 fd2 : FuncData} (F : Fun K "_law_drawn" "_law_drawn" s_Ldrawn f fd) (Z : ZL mg) (B_Lmix : Fn P w K mg base CX0 2 "_law_mix" ["_law_script", "_law_k"] (spMix K) f1 fd1) (B_Lwords : Fn P w K mg base CX0 1 "_law_words" [] spWords f2 fd2) : FnOk P w K mg base CX0 3 f fd ["_law_script"] (spDrawn K) := by
  refine F.ok scLdrawn (fun vs H Q E h => ?_) (fun cdv A outer s₀ H vs Q E hr h => ?_)
  · obtain ⟨a, ns, rfl, _⟩ := h
    rfl
  obtain ⟨a, ns, rfl, hS, h63, q⟩ := h
  have e1 : (Str.ofString " ").length = 1 := by rw [Tx.sp_is]; rfl
  refine ⟨_, (@pss_cons _ _ _ _ _ (@ps_set _ _ (1) _ _ _ _ scLdrawn.nd rfl (Or.inl rfl) (@pe_lst _ _ _ _ (@pa_nil _)) (by walk_at "g") (by walk_at "f")) (@pss_cons _ _ _ _ _ (@ps_for _ _ _ _ _ _ _ _ PassesOwn.never rfl (@pi_range1 _ _ _ _ _ _ rfl Z.range (@pa_cons _ _ _ _ _ (@pe_int _ _ _ _) (@pa_nil _) (by walk_at "g")) (by walk_at "g")) (@pg_name _ _ (2) _ scLdrawn.nd rfl (Or.inl rfl) (by walk_at "f")) (@pss_cons _ _ _ _ _ (@ps_set _ _ (3) _ _ _ _ scLdrawn.nd rfl (Or.inl rfl) (@pe_call _ _ _ _ _ _ _ _ _ _ _ _ _ _ _ _ B_Lmix.ok (Room.mono hr (by decide)) rfl B_Lmix.m B_Lmix.kp B_Lmix.b .nil pass0 (@pa_cons _ _ _ _ _ (@pv _ 0 _ _ rfl (by walk_at "o") (by decide) (by decide)) (@pa_cons _ _ _ _ _ (@pe_op _ _ _ _ _ _ _ _ op_add (@pe_int _ _ _ _) (@pv _ 2 _ _ rfl (by walk_at "o") (by decide) (by decide))) (@pa_nil _) (by walk_at "g")) (by walk_at "g")) (by decide) (by walk_at "g") rfl) (by walk_at "g") (by walk_at "f")) (@pss_one _ _ _ (@ps_expr _ _ _ _ (@pe_bm _ _ _ _ _ _ _ _ _ _ _ _ PySem.F.plainAttrs_list PySem.F.slot_list_append PySem.F.type_list_append mt_append (@pv _ 1 _ _ rfl (by walk_at "o") (by decide) (by decide)) (@pa_cons _ _ _ _ _ (@pe_op _ _ _ _ _ _ _ _ op_add_str (@pe_op _ _ _ _ _ _ _ _ op_add_str (@pe_ix _ _ _ _ _ _ _ ix_list (@pe_call0 _ _ _ _ _ _ _ _ _ _ _ _ _ B_Lwords.ok (Room.mono hr (by decide)) rfl B_Lwords.m B_Lwords.kp B_Lwords.b .nil pass0 (by decide)) (@pv _ 2 _ _ rfl (by walk_at "o") (by decide) (by decide)) (fun _ _ => rfl)) (@pe_str _ _ _ _)) (@pe_callTy _ _ _ _ _ _ _ _ _ call_str_int rfl Z.str (by decide +kernel) (@pa_cons _ _ _ _ _ (@pe_menu _ _ _ _ _ _ _ (@pa_cons _ _ _ _ _ (@pe_int _ _ _ _) (@pa_cons _ _ _ _ _ (@pe_int _ _ _ _) (@pa_cons _ _ _ _ _ (@pe_int _ _ _ _) (@pa_cons _ _ _ _ _ (@pe_int _ _ _ _) (@pa_cons _ _ _ _ _ (@pe_op _ _ _ _ _ _ _ _ op_mod (@pv _ 3 _ _ rfl (by walk_at "o") (by decide) (by decide)) (@pe_int _ _ _ _)) (@pa_nil _) (by walk_at "g")) (by walk_at "g")) (by walk_at "g")) (by walk_at "g")) (by walk_at "g")) (@pe_op _ _ _ _ _ _ _ _ op_mod (@pe_op _ _ _ _ _ _ _ _ op_fdiv (@pv _ 3 _ _ rfl (by walk_at "o") (by decide) (by decide)) (@pe_int _ _ _ _)) (@pe_int _ _ _ _)) (by walk_at "g")) (@pa_nil _) (by walk_at "g")) (by decide) (by decide) (by walk_at "g") rfl)) (@pa_nil _) (by walk_at "g")) (by walk_at "g") (by walk_at "g") (by walk_at "g") (by walk_at "g") (by walk_at "g")) (by walk_at "g")))) (by walk_at "g")) (@pss_cons _ _ _ _ _ (@ps_asg _ _ _ _ _ _ (@pe_op _ _ _ _ _ _ _ _ op_add_str (@pe_str _ _ _ _) (@pe_callTy _ _ _ _ _ _ _ _ _ call_str_int rfl Z.str (by decide +kernel) (@pa_cons _ _ _ _ _ (@pe_op _ _ _ _ _ _ _ _ op_mod (@pe_call _ _ _ _ _ _ _ _ _ _ _ _ _ _ _ _ B_Lmix.ok (Room.mono hr (by decide)) rfl B_Lmix.m B_Lmix.kp B_Lmix.b .nil pass0 (@pa_cons _ _ _ _ _ (@pv _ 0 _ _ rfl (by walk_at "o") (by decide) (by decide)) (@pa_cons _ _ _ _ _ (@pe_int _ _ _ _) (@pa_nil _) (by walk_at "g")) (by walk_at "g")) (by decide) (by walk_at "g") rfl) (@pe_int _ _ _ _)) (@pa_nil _) (by walk_at "g")) (by decide) (by decide) (by walk_at "g") rfl)) (@pg_sub _ _ _ _ _ _ _ (@pv _ 1 _ _ rfl (by walk_at "o") (by decide) (by decide)) (@pe_int _ _ _ _) set_list (by walk_at "g")) (by walk_at "g") (by walk_at "g") (by walk_at "g")) (@pss_cons _ _ _ _ _ (@ps_comp _ (4) _ _ _ _ _ _ _ _ (defScope s_Ldrawn) _ (["_law_script", "_law_found", "_law_k", "_law_number_here", "_law_sent"]) (["_law_script", "_law_found", "", "_law_number_here", "_law_sent", "_law_k"]) (["_law_k"]) _ _ _ _ _ rfl rfl rfl (.of (by decide +kernel)) (@pi_range1 _ _ _ _ _ _ rfl Z.range (@pa_cons _ _ _ _ _ (@pe_op _ _ _ _ _ _ _ _ op_mod (@pe_call _ _ _ _ _ _ _ _ _ _ _ _ _ _ _ _ B_Lmix.ok (Room.mono hr (by decide)) rfl B_Lmix.m B_Lmix.kp B_Lmix.b .nil pass0 (@pa_cons _ _ _ _ _ (@pv _ 0 _ _ rfl (by walk_at "o") (by decide) (by decide)) (@pa_cons _ _ _ _ _ (@pe_int _ _ _ _) (@pa_nil _) (by walk_at "g")) (by walk_at "g")) (by decide) (by walk_at "g") rfl) (@pe_int _ _ _ _)) (@pa_nil _) (by walk_at "g")) (by walk_at "g")) takes_name (fun _ _ _ _ _ => @pg_name _ _ (5) _ (show List.Nodup (["_law_script", "_law_found", "", "_law_number_here", "_law_sent", "_law_k"] : List Str) by decide +kernel) rfl (Or.inl rfl) (by walk_at "f")) (fun _ _ _ _ _ => @pif_nil _) (fun _ _ _ _ _ => (@pe_callTy _ _ _ _ _ _ _ _ _ call_str_int rfl Z.str (by decide +kernel) (@pa_cons _ _ _ _ _ (@pe_op _ _ _ _ _ _ _ _ op_mod (@pe_call _ _ _ _ _ _ _ _ _ _ _ _ _ _ _ _ B_Lmix.ok (Room.mono hr (by decide)) rfl B_Lmix.m B_Lmix.kp B_Lmix.b .nil pass0 (@pa_cons _ _ _ _ _ (@pv _ 0 _ _ rfl (by walk_at "o") (by decide) (by decide)) (@pa_cons _ _ _ _ _ (@pe_op _ _ _ _ _ _ _ _ op_add (@pe_int _ _ _ _) (@pv _ 5 _ _ rfl (by walk_at "o") (by decide) (by decide))) (@pa_nil _) (by walk_at "g")) (by walk_at "g")) (by decide) (by walk_at "g") rfl) (@pe_int _ _ _ _)) (@pa_nil _) (by walk_at "g")) (by decide) (by decide) (by walk_at "g") rfl)) scLdrawn.nd rfl rfl (by walk_at "g") (by walk_at "g")) (@pss_one _ _ _ (@ps_ret _ _ _ _ (@pe_op _ _ _ _ _ _ _ _ op_cat (@pv _ 1 _ _ rfl (by walk_at "o") (by decide) (by decide)) (@pe_lst _ _ _ _ (@pa_cons _ _ _ _ _ (@pe_bm _ _ _ _ _ _ _ _ _ _ _ _ PySem.F.plainAttrs_str PySem.F.slot_str_join PySem.F.type_str_join mt_join (@pe_str _ _ _ _) (@pa_cons _ _ _ _ _ (@pe_op _ _ _ _ _ _ _ _ op_cat (@pe_lst _ _ _ _ (@pa_cons _ _ _ _ _ (@pe_str _ _ _ _) (@pa_nil _) (by walk_at "g"))) (@pv _ 4 _ _ rfl (by walk_at "o") (by decide) (by decide))) (@pa_nil _) (by walk_at "g")) (by walk_at "g") (by walk_at "g") (by walk_at "g") (by walk_at "g") (by walk_at "g")) (@pa_nil _) (by walk_at "g")))))))))), ?_⟩
  walk_at "rd"
  intro l n1
  walk_at "rd"
  refine for_range (fun i σ H3 => ∃ (v2 v3 : Option V) (lines : List Str), σ = [some (.ref a), some (.ref l), v2, v3, none] ∧ Same H H3 ∧ H3 l = some (.lst (lines.map V.str)) ∧ (∀ z ∈ lines, z.length ≤ 100) ∧ lines.length = i) ?_ ?_ ?_
  · exact ⟨none, none, [], rfl, Same.new n1 _, upd_same, fun z h => by simp at h, rfl⟩
  · rintro i σ H3 hi ⟨v2, v3, lines, rfl, s3, hl, hz, hn⟩
    walk_at "rd"
    intro lw H5 s5 nw hw
    have hi8 : i < 8 := hi
    obtain ⟨wd, ewd⟩ : ∃ wd, words9[i]? = some wd := ⟨_, List.getElem?_eq_getElem (show i < 9 by omega)⟩
    have hwd := words_short wd (List.mem_of_getElem? ewd)
    have hat : atI (words9.map V.str) (0 + (i : Int)) = some (.str wd) := by rw [Int.zero_add]; exact atI_nat (by rw [List.getElem?_map, ewd]; rfl)
    generalize mixv ns (1 + (0 + (i : Int))) = n
    walk_at "rd"
    refine ⟨by rw [e1, sizeLine_eq]; omega, ?_⟩
    have hs5 := s3.trans s5
    have hl5 := s5 _ _ hl
    walk_at "rd"
    rename_i H6 s6
    have hs6 := hs5.trans s6
    have hl6 := s6 _ _ hl5
    intro m hm
    have hm : m ∈ [0, 1, 9, 999999999999999, n % 1000] := hm
    have hmb : 0 ≤ m ∧ m < 10 ^ 15 := by
      simp only [List.mem_cons, List.not_mem_nil, or_false] at hm
      omega
    have hlg := log_small hmb.1 hmb.2
    have hnl := (Tx.num_len15 hmb.1 hmb.2).2
    have hsz : (lines.map V.str).length < sizeLine := by rw [List.length_map, sizeLine_eq]; omega
    have hnl : (Str.ofString (toString m)).length ≤ 15 := hnl
    walk_at "rd"
    refine ⟨by rw [Str.length_append, e1, sizeLine_eq]; omega, ?_⟩
    walk_at "rd"
    refine ⟨_, _, lines ++ [wd ++ Str.ofString " " ++ Str.ofString (toString m)], rfl, hs6.mut n1, by rw [upd_same, List.map_append]; rfl, fun z h => ?_, by simp [hn]⟩
    rcases List.mem_append.mp h with h | h
    · exact hz z h
    · rw [List.mem_singleton.mp h, Str.length_append, Str.length_append, e1]
      omega
  · rintro σ H3 ⟨v2, v3, lines, rfl, s3, hl, hz, hn⟩
    have hn8 : lines.length = 8 := hn
    walk_at "rd"
    have hrb : 0 ≤ mixv ns 9 % 2 ∧ mixv ns 9 % 2 < 10 ^ 15 := by omega
    generalize mixv ns 9 % 2 = r at hrb ⊢
    have hrl := (Tx.num_len15 hrb.1 hrb.2).2
    have hrl : (Str.ofString (toString r)).length ≤ 15 := hrl
    have e8 : (Str.ofString "running ").length = 8 := by decide +kernel
    refine ⟨log_small hrb.1 hrb.2, ?_⟩
    walk_at "rd"
    refine ⟨by rw [e8, sizeLine_eq]; omega, ?_⟩
    have hix : ixN (lines.map V.str).length 1 = some 1 := by rw [List.length_map, hn8]; rfl
    iterate 3 walk_at "r1"
    have el : (lines.map V.str).set 1 (V.str (Str.ofString "running " ++ Str.ofString (toString r))) = (lines.set 1 (Str.ofString "running " ++ Str.ofString (toString r))).map V.str := by rw [List.map_set]
    rw [el]
    have hz2 : ∀ z ∈ lines.set 1 (Str.ofString "running " ++ Str.ofString (toString r)), z.length ≤ 100 := fun z h => by
      rcases List.mem_or_eq_of_mem_set h with h | h
      · exact hz z h
      · rw [h, Str.length_append, e8]; omega
    have hn2 : (lines.set 1 (Str.ofString "running " ++ Str.ofString (toString r))).length = 8 := by rw [List.length_set]; exact hn8
    generalize lines.set 1 (Str.ofString "running " ++ Str.ofString (toString r)) = lines2 at hz2 hn2 ⊢
    have s4 : Same H (upd H3 l (.lst (lines2.map V.str))) := s3.mut n1
    have hl4 : (upd H3 l (.lst (lines2.map V.str))) l = some (.lst (lines2.map V.str)) := upd_same
    generalize upd H3 l (.lst (lines2.map V.str)) = H4 at s4 hl4 ⊢
    clear hix el hl s3 hz hn hn8
    walk_at "rd"
    have hm6 : 0 ≤ mixv ns 20 % 6 ∧ mixv ns 20 % 6 < 6 := by omega
    generalize mixv ns 20 % 6 = mm at hm6 ⊢
    intro acc n5
    refine comp_range (fun i ys H5 => ∃ ts : List Str, ys = ts.map V.str ∧ ts.length = i ∧ (∀ t ∈ ts, t.length ≤ 15) ∧ Same H4 H5 ∧ H5 acc = some (.lst ys)) ?_ ?_ ?_
    · exact ⟨[], rfl, rfl, fun t h => by simp at h, Same.new n5 _, upd_same⟩
    · rintro i ys H5 hi ⟨ts, rfl, htl, htb, s5, hac⟩
      have hi6 : i < mm.toNat := hi
      have hsz : (ts.map V.str).length < sizeLine := by rw [List.length_map, sizeLine_eq]; omega
      walk_at "rd"
      generalize mixv ns (10 + (0 + (i : Int))) = r2
      have hrb2 : 0 ≤ r2 % 30 ∧ r2 % 30 < 10 ^ 15 := by omega
      have hrl2 := (Tx.num_len15 hrb2.1 hrb2.2).2
      refine ⟨log_small hrb2.1 hrb2.2, ?_⟩
      walk_at "rd"
      refine cstep hi ⟨ts ++ [Str.ofString (toString (r2 % 30))], by rw [List.map_append]; rfl, by simp [htl], fun t h => ?_, s5.mut n5, upd_same⟩
      rcases List.mem_append.mp h with h | h
      · exact htb t h
      · rw [List.mem_singleton.mp h]; exact hrl2
    · rintro ys H5 ⟨ts, rfl, htl, htb, s5, hac⟩
      have hl5 := s5 _ _ hl4
      have hs5 := s4.trans s5
      have htl5 : ts.length ≤ 5 := by omega
      walk_at "rd"
      intro p1 np1
      have hac1 := at_new (o := .lst [.str (Str.ofString "sent")]) np1 hac
      walk_at "r1"
      refine ⟨p1, acc, [.str (Str.ofString "sent")], ts.map V.str, rfl, rfl, upd_same, hac1, by rw [List.length_map, sizeLine_eq]; show 1 + _ ≤ _; omega, fun p2 np2 => ?_⟩
      refine ⟨_, p2, Str.ofString "sent" :: ts, rfl, rfl, by rw [upd_same]; rfl, ?_, ?_⟩
      · rw [Tx.sp_is]
        refine Tx.joinOkB (B := 15) (fun t ht => ?_) (by rw [List.length_cons]; omega)
        rcases List.mem_cons.mp ht with h | h
        · rw [h]; decide +kernel
        · exact htb t h
      rw [Tx.sp_is]
      have hjl : Tx.jl (Str.ofString "sent" :: ts) ≤ 100 := by
        have e4 : (Str.ofString "sent").length = 4 := by decide +kernel
        have e5 : Tx.jl (Str.ofString "sent" :: ts) = (Str.ofString "sent").length + 1 + Tx.jl ts := by simp [Tx.jl]
        have e6 := jl_le (k := 15) htb
        rw [e5, e4]
        omega
      have hj := Tx.join_le (Str.ofString "sent" :: ts)
      have s7 := (hs5.trans (Same.new np1 (.lst [.str (Str.ofString "sent")]))).trans (Same.new np2 (.lst ([.str (Str.ofString "sent")] ++ ts.map V.str)))
      have hl7 := at_new (o := .lst ([.str (Str.ofString "sent")] ++ ts.map V.str)) np2 (at_new (o := .lst [.str (Str.ofString "sent")]) np1 hl5)
      generalize upd (upd H5 p1 (.lst [.str (Str.ofString "sent")])) p2 (.lst ([.str (Str.ofString "sent")] ++ ts.map V.str)) = H7 at s7 hl7 ⊢
      refine ⟨by show 1 ≤ _; rw [sizeLine_eq]; decide, fun p3 np3 => ?_⟩
      refine ⟨l, p3, lines2.map V.str, [.str (Txt.join Tx.sp (Str.ofString "sent" :: ts))], rfl, rfl, at_new np3 hl7, upd_same, by rw [List.length_map, hn2, sizeLine_eq]; show 8 + 1 ≤ _; decide, fun p4 np4 => ?_⟩
      have s8 := (s7.trans (Same.new np3 (.lst [.str (Txt.join Tx.sp (Str.ofString "sent" :: ts))])))
      refine q p4 (lines2 ++ [Txt.join Tx.sp (Str.ofString "sent" :: ts)]) _ (s8.trans (Same.new np4 _)) (s8.free np4) (fun z h => ?_) (by rw [List.length_append, hn2]; rfl) (by rw [upd_same, List.map_append]; rfl)
      rcases List.mem_append.mp h with h | h
      · exact hz2 z h
      · rw [List.mem_singleton.mp h]; omega
end
end Sp

set_option Elab.async false
set_option linter.all false
set_option maxRecDepth 100000
set_option maxHeartbeats 4000000


namespace Sp
open PySem L2
section
variable {P : Program} {w : World} {K : PySem.W.Frag} {mg : Str → Option Value} {base : Heap} {CP CD CB CL CN CS CO aW fI : Addr}
/-! ### lists of texts, made of lists of texts -/
noncomputable def BL (te : TE) (σ : St) (H0 : Hp) (ts : List Str) : Prop := ∀ (H : Hp) (Q : VK), Same H0 H → (∀ p H', Same H H' → H' p = some (.lst (ts.map V.str)) → Q (.ref p) H') → te σ H Q
noncomputable def IL (te : TE) (σ : St) (v : V) : Prop := ∀ (H : Hp) (Q : VK), Q v H → te σ H Q
section
variable {σ : St} {H0 : Hp} {ta tb te : TE} {ts us : List Str} {l : Addr} {i s : Nat} {v : V}
theorem IL.var (h : σ[i]? = some (some v)) : IL (tVar i) σ v := fun H Q q => ⟨v, h, q⟩
theorem IL.const : IL (tC v) σ v := fun H Q q => q
theorem IL.add {x y : Int} (ha : IL ta σ (.int x)) (hb : IL tb σ (.int y)) : IL (tOp (rI0 fun i j => V.int (i + j)) ta tb) σ (.int (x + y)) := fun H Q q => ha H _ (hb H _ ⟨x, y, rfl, rfl, q⟩)
theorem BL.var (h : σ[i]? = some (some (.ref l))) (hl : H0 l = some (.lst (ts.map V.str))) : BL (tVar i) σ H0 ts := fun H Q s q => ⟨_, h, q l H Same.refl' (s _ _ hl)⟩
theorem BL.cat (ha : BL ta σ H0 ts) (hb : BL tb σ H0 us) (hz : ts.length + us.length ≤ 1000) : BL (tOp rCat ta tb) σ H0 (ts ++ us) := fun H Q s q => ha H _ s fun p1 H1 s1 h1 => hb H1 _ (s.trans s1) fun p2 H2 s2 h2 =>
  ⟨p1, p2, _, _, rfl, rfl, s2 _ _ h1, h2, by rw [List.length_map, List.length_map, sizeLine_eq]; omega, fun p np => q p _ ((s1.trans s2).trans (Same.new np _)) (by rw [upd_same, List.map_append])⟩
theorem IL.sub {x y : Int} (ha : IL ta σ (.int x)) (hb : IL tb σ (.int y)) : IL (tOp (rI0 fun i j => V.int (i - j)) ta tb) σ (.int (x - y)) := fun H Q q => ha H _ (hb H _ ⟨x, y, rfl, rfl, q⟩)
noncomputable def SL (te : TE) (σ : St) (H0 : Hp) (z : Str) : Prop := ∀ (H : Hp) (Q : VK), Same H0 H → Q (.str z) H → te σ H Q
theorem IL.sl {z : Str} (h : IL te σ (.str z)) : SL te σ H0 z := fun H Q _ q => h H Q q
theorem BL.one {z : Str} (he : SL te σ H0 z) : BL (tLst (tCons te tNil)) σ H0 [z] := fun H Q s q => he H _ s ⟨by show 1 ≤ _; rw [sizeLine_eq]; decide, fun p np => q p _ (Same.new np _) (by rw [upd_same]; rfl)⟩
theorem SL.item {z : Str} {k : Int} (h : σ[i]? = some (some (.ref l))) (hl : H0 l = some (.lst (ts.map V.str))) (hk : IL tb σ (.int k)) (hz : atI (ts.map V.str) k = some (.str z)) : SL (tOp (rIxL K) (tVar i) tb) σ H0 z := fun H Q s q => ⟨_, h, hk H _ ⟨l, _, k, _, rfl, rfl, SqL.of (s _ _ hl), hz, q⟩⟩
theorem SL.join (h : σ[i]? = some (some (.ref l))) (hl : H0 l = some (.lst (ts.map V.str))) (hj : JoinOk Tx.sp ts = true) : SL (tBM K "str" rJoin (tC (V.str Tx.sp)) (tCons (tVar i) tNil)) σ H0 (Txt.join Tx.sp ts) := fun H Q s q => ⟨rfl, _, h, Tx.sp, l, ts, rfl, rfl, s _ _ hl, hj, q⟩
theorem BL.ix3 {E0 E1 E2 ti : TE} {a b c d : List Str} {n : Int} (h0 : BL E0 σ H0 a) (h1 : BL E1 σ H0 b) (h2 : BL E2 σ H0 c) (hi : IL ti σ (.int n)) (hd : n = 0 ∧ d = a ∨ n = 1 ∧ d = b ∨ n = 2 ∧ d = c) : BL (tOp (rIxL K) (tLst (tCons E0 (tCons E1 (tCons E2 tNil)))) ti) σ H0 d := fun H Q s q =>
  h0 H _ s fun p0 H1 s1 e0 => h1 H1 _ (s.trans s1) fun p1 H2 s2 e1 => h2 H2 _ ((s.trans s1).trans s2) fun p2 H3 s3 e2 => ⟨by show 3 ≤ _; rw [sizeLine_eq]; decide, fun p np => hi _ _ (by
    have s4 := Same.new np (.lst [V.ref p0, V.ref p1, V.ref p2])
    have sA := ((s1.trans s2).trans s3).trans s4
    rcases hd with ⟨rfl, rfl⟩ | ⟨rfl, rfl⟩ | ⟨rfl, rfl⟩
    · exact ⟨p, _, 0, .ref p0, rfl, rfl, SqL.of upd_same, rfl, q p0 _ sA (s4 _ _ (s3 _ _ (s2 _ _ e0)))⟩
    · exact ⟨p, _, 1, .ref p1, rfl, rfl, SqL.of upd_same, rfl, q p1 _ sA (s4 _ _ (s3 _ _ e1))⟩
    · exact ⟨p, _, 2, .ref p2, rfl, rfl, SqL.of upd_same, rfl, q p2 _ sA (s4 _ _ e2)⟩)⟩
theorem BL.ix4 {E0 E1 E2 E3 ti : TE} {a b c d0 d : List Str} {n : Int} (h0 : BL E0 σ H0 a) (h1 : BL E1 σ H0 b) (h2 : BL E2 σ H0 c) (h3 : BL E3 σ H0 d0) (hi : IL ti σ (.int n)) (hd : n = 0 ∧ d = a ∨ n = 1 ∧ d = b ∨ n = 2 ∧ d = c ∨ n = 3 ∧ d = d0) : BL (tOp (rIxL K) (tLst (tCons E0 (tCons E1 (tCons E2 (tCons E3 tNil))))) ti) σ H0 d := fun H Q s q =>
  h0 H _ s fun p0 H1 s1 e0 => h1 H1 _ (s.trans s1) fun p1 H2 s2 e1 => h2 H2 _ ((s.trans s1).trans s2) fun p2 H3 s3 e2 => h3 H3 _ (((s.trans s1).trans s2).trans s3) fun p3 H4 s4 e3 => ⟨by show 4 ≤ _; rw [sizeLine_eq]; decide, fun p np => hi _ _ (by
    have s5 := Same.new np (.lst [V.ref p0, V.ref p1, V.ref p2, V.ref p3])
    have sA := (((s1.trans s2).trans s3).trans s4).trans s5
    rcases hd with ⟨rfl, rfl⟩ | ⟨rfl, rfl⟩ | ⟨rfl, rfl⟩ | ⟨rfl, rfl⟩
    · exact ⟨p, _, 0, .ref p0, rfl, rfl, SqL.of upd_same, rfl, q p0 _ sA (s5 _ _ (s4 _ _ (s3 _ _ (s2 _ _ e0))))⟩
    · exact ⟨p, _, 1, .ref p1, rfl, rfl, SqL.of upd_same, rfl, q p1 _ sA (s5 _ _ (s4 _ _ (s3 _ _ e1)))⟩
    · exact ⟨p, _, 2, .ref p2, rfl, rfl, SqL.of upd_same, rfl, q p2 _ sA (s5 _ _ (s4 _ _ e2))⟩
    · exact ⟨p, _, 3, .ref p3, rfl, rfl, SqL.of upd_same, rfl, q p3 _ sA (s5 _ _ e3)⟩)⟩
theorem IL.succ {k : Nat} (ha : IL ta σ (.int (k : Int))) : IL (tOp (rI0 fun i j => V.int (i + j)) ta (tC (.int 1))) σ (.int ((k + 1 : Nat) : Int)) := by
  have h := IL.add ha (IL.const (σ := σ) (v := .int 1))
  rw [Int.natCast_add]
  exact h
theorem asg_BL {u : TS} {D : Ends} {k : Nat} (h : BL te σ H0 ts) (q : ∀ p H', Same H0 H' → H' p = some (.lst (ts.map V.str)) → u D (σ.set k (some (.ref p))) H') : tSeq (tAsg te (gName k)) u D σ H0 := h H0 _ Same.refl' q
theorem ret_BL {D : Ends} (h : BL te σ H0 ts) (q : ∀ p H', Same H0 H' → H' p = some (.lst (ts.map V.str)) → D.rt (.ref p) H') : tRet te D σ H0 := h H0 _ Same.refl' q
theorem cut_til {xs : List V} {k : Nat} : cutV xs none (some (k : Int)) = xs.take k := by
  unfold cutV
  rw [HT.sIx_nat, HT.sIx_none]
  by_cases h : k ≤ xs.length
  · rw [Nat.min_eq_left h]; rfl
  · rw [Nat.min_eq_right (by omega), Nat.sub_zero, List.drop_zero, List.take_of_length_le (Nat.le_refl _), List.take_of_length_le (by omega)]
theorem BL.til {k : Nat} (he : BL te σ H0 ts) (hk : IL ta σ (.int (k : Int))) : BL (tSl (rSlL K) te tNoPart (tPart ta)) σ H0 (ts.take k) := fun H Q s q => he H _ s fun p1 H1 s1 h1 => hk H1 _ ⟨(k : Int), rfl, p1, ts.map V.str, rfl, SqL.of h1, fun p np => by
  refine q p _ (s1.trans (Same.new np _)) ?_
  rw [upd_same, cut_til, List.map_take]⟩
theorem BL.from {k : Nat} (he : BL te σ H0 ts) (hk : IL ta σ (.int (k : Int))) : BL (tSl (rSlL K) te (tPart ta) tNoPart) σ H0 (ts.drop k) := fun H Q s q => he H _ s fun p1 H1 s1 h1 => hk H1 _ ⟨(k : Int), rfl, p1, ts.map V.str, rfl, SqL.of h1, fun p np => by
  refine q p _ (s1.trans (Same.new np _)) ?_
  rw [upd_same, cut_from, List.map_drop]⟩
end
theorem jl_next (k : Nat) (a : List Str) : Tx.jl (a.drop (k + 1)) ≤ Tx.jl (a.drop k) := by
  have h := Tx.jl_take 1 (a.drop k)
  rw [List.drop_drop] at h
  omega
theorem mem_cutj {lines : List Str} {j : Nat} {z : Str} (h : z ∈ lines.take j ∨ z ∈ lines.drop j ∨ z ∈ lines.drop (j + 1)) : z ∈ lines := by
  rcases h with h | h | h
  · exact List.mem_of_mem_take h
  · exact List.mem_of_mem_drop h
  · exact List.mem_of_mem_drop h
noncomputable def spChg (K : PySem.W.Frag) : Sp := fun vs H Q _ => ∃ (a l : Addr) (ns : List Int) (k : Int) (lines : List Str) (B : Nat), vs = [.ref a, .int k, .ref l] ∧ SqL K H a (ns.map V.int) ∧ ns.length ≤ 63 ∧ 0 ≤ k ∧ H l = some (.lst (lines.map V.str)) ∧ lines ≠ [] ∧ lines.length ≤ 100 ∧ (∀ z ∈ lines, z.length ≤ B) ∧ B ≤ 500 ∧
  ∀ (l' : Addr) (lines' : List Str) (H' : Hp), Same H H' → lines'.length ≤ lines.length + 1 → (∀ z ∈ lines', z.length ≤ B + 20) → H' l' = some (.lst (lines'.map V.str)) → Q (.ref l') H'
theorem scLchanged : FnScope ["_law_script", "_law_k", "_law_lines", "_law_number_here", "_law_at", "_law_words_here", "_law_spot", "_law_some", "_law_way"] ["_law_script", "_law_k", "_law_lines"] (defScope s_Lchanged) := ⟨rfl, rfl, rfl, by decide +kernel, rfl, by decide +kernel, by decide +kernel⟩
theorem ok_Lchanged {f f1 : Addr} {fd fd1 : FuncData} (F : Fun K "_law_changed" "_law_changed" s_Lchanged f fd) (Z : ZL mg) (B_Lmix : Fn P w K mg base CX0 2 "_law_mix" ["_law_script", "_law_k"] (spMix K) f1 fd1) : FnOk P w K mg base CX0 3 f fd ["_law_script", "_law_k", "_law_lines"] (spChg K) := by
  refine F.ok scLchanged (fun vs H Q E h => ?_) (fun cdv A outer s₀ H vs Q E hr h => ?_)
  · obtain ⟨a, l, ns, k, lines, B, rfl, _⟩ := h
    rfl
  obtain ⟨a, l, ns, k, lines, B, rfl, hS, h63, hk, hl, hne, hln, hz, hB, q⟩ := h
  have hlp : 0 < lines.length := List.length_pos_iff.mpr hne
  have hll : ((lines.map V.str).length : Int) = (lines.length : Nat) := by rw [List.length_map]
  refine ⟨_, (@pss_cons _ _ _ _ _ (@ps_set _ _ (3) _ _ _ _ scLchanged.nd rfl (Or.inl rfl) (@pe_call _ _ _ _ _ _ _ _ _ _ _ _ _ _ _ _ B_Lmix.ok (Room.mono hr (by decide)) rfl B_Lmix.m B_Lmix.kp B_Lmix.b .nil pass0 (@pa_cons _ _ _ _ _ (@pv _ 0 _ _ rfl (by walk_at "o") (by decide) (by decide)) (@pa_cons _ _ _ _ _ (@pv _ 1 _ _ rfl (by walk_at "o") (by decide) (by decide)) (@pa_nil _) (by walk_at "g")) (by walk_at "g")) (by decide) (by walk_at "g") rfl) (by walk_at "g") (by walk_at "f")) (@pss_cons _ _ _ _ _ (@ps_set _ _ (4) _ _ _ _ scLchanged.nd rfl (Or.inl rfl) (@pe_op _ _ _ _ _ _ _ _ op_mod (@pv _ 3 _ _ rfl (by walk_at "o") (by decide) (by decide)) (@pe_callB _ _ _ _ _ _ _ _ _ call_len_seq rfl Z.len (by decide +kernel) (@pa_cons _ _ _ _ _ (@pv _ 2 _ _ rfl (by walk_at "o") (by decide) (by decide)) (@pa_nil _) (by walk_at "g")) (by decide) (by decide) (by walk_at "g") rfl)) (by walk_at "g") (by walk_at "f")) (@pss_cons _ _ _ _ _ (@ps_set _ _ (5) _ _ _ _ scLchanged.nd rfl (Or.inl rfl) (@pe_bm _ _ _ _ _ _ _ _ _ _ _ _ PySem.F.plainAttrs_str PySem.F.slot_str_split PySem.F.type_str_split mt_split (@pe_ix _ _ _ _ _ _ _ ix_list (@pv _ 2 _ _ rfl (by walk_at "o") (by decide) (by decide)) (@pv _ 4 _ _ rfl (by walk_at "o") (by decide) (by decide)) (fun _ _ => rfl)) (@pa_cons _ _ _ _ _ (@pe_str _ _ _ _) (@pa_nil _) (by walk_at "g")) (by walk_at "g") (by walk_at "g") (by walk_at "g") (by walk_at "g") (by walk_at "g")) (by walk_at "g") (by walk_at "f")) (@pss_cons _ _ _ _ _ (@ps_set _ _ (6) _ _ _ _ scLchanged.nd rfl (Or.inl rfl) (@pe_op _ _ _ _ _ _ _ _ op_mod (@pe_op _ _ _ _ _ _ _ _ op_fdiv (@pv _ 3 _ _ rfl (by walk_at "o") (by decide) (by decide)) (@pe_int _ _ _ _)) (@pe_callB _ _ _ _ _ _ _ _ _ call_len_seq rfl Z.len (by decide +kernel) (@pa_cons _ _ _ _ _ (@pv _ 5 _ _ rfl (by walk_at "o") (by decide) (by decide)) (@pa_nil _) (by walk_at "g")) (by decide) (by decide) (by walk_at "g") rfl)) (by walk_at "g") (by walk_at "f")) (@pss_cons _ _ _ _ _ (@ps_set _ _ (7) _ _ _ _ scLchanged.nd rfl (Or.inl rfl) (@pe_menuV _ _ _ _ _ _ _ (@pa_cons _ _ _ _ _ (@pe_str _ _ _ _) (@pa_cons _ _ _ _ _ (@pe_str _ _ _ _) (@pa_cons _ _ _ _ _ (@pe_str _ _ _ _) (@pa_cons _ _ _ _ _ (@pe_str _ _ _ _) (@pa_cons _ _ _ _ _ (@pe_str _ _ _ _) (@pa_cons _ _ _ _ _ (@pe_str _ _ _ _) (@pa_cons _ _ _ _ _ (@pe_str _ _ _ _) (@pa_cons _ _ _ _ _ (@pe_str _ _ _ _) (@pa_cons _ _ _ _ _ (@pe_str _ _ _ _) (@pa_cons _ _ _ _ _ (@pe_str _ _ _ _) (@pa_nil _) (by walk_at "g")) (by walk_at "g")) (by walk_at "g")) (by walk_at "g")) (by walk_at "g")) (by walk_at "g")) (by walk_at "g")) (by walk_at "g")) (by walk_at "g")) (by walk_at "g")) (@pe_op _ _ _ _ _ _ _ _ op_mod (@pe_op _ _ _ _ _ _ _ _ op_fdiv (@pv _ 3 _ _ rfl (by walk_at "o") (by decide) (by decide)) (@pe_int _ _ _ _)) (@pe_int _ _ _ _)) (by walk_at "g")) (by walk_at "g") (by walk_at "f")) (@pss_cons _ _ _ _ _ (@ps_set _ _ (8) _ _ _ _ scLchanged.nd rfl (Or.inl rfl) (@pe_op _ _ _ _ _ _ _ _ op_mod (@pe_op _ _ _ _ _ _ _ _ op_fdiv (@pv _ 3 _ _ rfl (by walk_at "o") (by decide) (by decide)) (@pe_int _ _ _ _)) (@pe_int _ _ _ _)) (by walk_at "g") (by walk_at "f")) (@pss_cons _ _ _ _ _ (@ps_if _ _ _ _ _ _ _ _ (@pt_cmpR _ _ _ _ _ _ _ _ op_lt (@pv _ 8 _ _ rfl (by walk_at "o") (by decide) (by decide)) (@pe_int _ _ _ _) (nomark _)) (@pss_cons _ _ _ _ _ (@ps_set _ _ (5) _ _ _ _ scLchanged.nd rfl (Or.inl rfl) (@pe_ix _ _ _ _ _ _ _ ix_list (@pe_lst _ _ _ _ (@pa_cons _ _ _ _ _ (@pe_op _ _ _ _ _ _ _ _ op_cat (@pe_op _ _ _ _ _ _ _ _ op_cat (@pe_slice _ _ _ _ _ _ _ _ _ _ sl_list (@pv _ 5 _ _ rfl (by walk_at "o") (by decide) (by decide)) (@po_none _) (@po_some _ _ _ (@pv _ 6 _ _ rfl (by walk_at "o") (by decide) (by decide)))) (@pe_lst _ _ _ _ (@pa_cons _ _ _ _ _ (@pv _ 7 _ _ rfl (by walk_at "o") (by decide) (by decide)) (@pa_nil _) (by walk_at "g")))) (@pe_slice _ _ _ _ _ _ _ _ _ _ sl_list (@pv _ 5 _ _ rfl (by walk_at "o") (by decide) (by decide)) (@po_some _ _ _ (@pe_op _ _ _ _ _ _ _ _ op_add (@pv _ 6 _ _ rfl (by walk_at "o") (by decide) (by decide)) (@pe_int _ _ _ _))) (@po_none _))) (@pa_cons _ _ _ _ _ (@pe_op _ _ _ _ _ _ _ _ op_cat (@pe_slice _ _ _ _ _ _ _ _ _ _ sl_list (@pv _ 5 _ _ rfl (by walk_at "o") (by decide) (by decide)) (@po_none _) (@po_some _ _ _ (@pv _ 6 _ _ rfl (by walk_at "o") (by decide) (by decide)))) (@pe_slice _ _ _ _ _ _ _ _ _ _ sl_list (@pv _ 5 _ _ rfl (by walk_at "o") (by decide) (by decide)) (@po_some _ _ _ (@pe_op _ _ _ _ _ _ _ _ op_add (@pv _ 6 _ _ rfl (by walk_at "o") (by decide) (by decide)) (@pe_int _ _ _ _))) (@po_none _))) (@pa_cons _ _ _ _ _ (@pe_op _ _ _ _ _ _ _ _ op_cat (@pv _ 5 _ _ rfl (by walk_at "o") (by decide) (by decide)) (@pe_lst _ _ _ _ (@pa_cons _ _ _ _ _ (@pv _ 7 _ _ rfl (by walk_at "o") (by decide) (by decide)) (@pa_nil _) (by walk_at "g")))) (@pa_nil _) (by walk_at "g")) (by walk_at "g")) (by walk_at "g"))) (@pv _ 8 _ _ rfl (by walk_at "o") (by decide) (by decide)) (fun _ _ => rfl)) (by walk_at "g") (by walk_at "f")) (@pss_one _ _ _ (@ps_ret _ _ _ _ (@pe_op _ _ _ _ _ _ _ _ op_cat (@pe_op _ _ _ _ _ _ _ _ op_cat (@pe_slice _ _ _ _ _ _ _ _ _ _ sl_list (@pv _ 2 _ _ rfl (by walk_at "o") (by decide) (by decide)) (@po_none _) (@po_some _ _ _ (@pv _ 4 _ _ rfl (by walk_at "o") (by decide) (by decide)))) (@pe_lst _ _ _ _ (@pa_cons _ _ _ _ _ (@pe_bm _ _ _ _ _ _ _ _ _ _ _ _ PySem.F.plainAttrs_str PySem.F.slot_str_join PySem.F.type_str_join mt_join (@pe_str _ _ _ _) (@pa_cons _ _ _ _ _ (@pv _ 5 _ _ rfl (by walk_at "o") (by decide) (by decide)) (@pa_nil _) (by walk_at "g")) (by walk_at "g") (by walk_at "g") (by walk_at "g") (by walk_at "g") (by walk_at "g")) (@pa_nil _) (by walk_at "g")))) (@pe_slice _ _ _ _ _ _ _ _ _ _ sl_list (@pv _ 2 _ _ rfl (by walk_at "o") (by decide) (by decide)) (@po_some _ _ _ (@pe_op _ _ _ _ _ _ _ _ op_add (@pv _ 4 _ _ rfl (by walk_at "o") (by decide) (by decide)) (@pe_int _ _ _ _))) (@po_none _)))))) (@pss_nil _)) (@pss_one _ _ _ (@ps_ret _ _ _ _ (@pe_ix _ _ _ _ _ _ _ ix_list (@pe_lst _ _ _ _ (@pa_cons _ _ _ _ _ (@pe_op _ _ _ _ _ _ _ _ op_cat (@pe_slice _ _ _ _ _ _ _ _ _ _ sl_list (@pv _ 2 _ _ rfl (by walk_at "o") (by decide) (by decide)) (@po_none _) (@po_some _ _ _ (@pv _ 4 _ _ rfl (by walk_at "o") (by decide) (by decide)))) (@pe_slice _ _ _ _ _ _ _ _ _ _ sl_list (@pv _ 2 _ _ rfl (by walk_at "o") (by decide) (by decide)) (@po_some _ _ _ (@pe_op _ _ _ _ _ _ _ _ op_add (@pv _ 4 _ _ rfl (by walk_at "o") (by decide) (by decide)) (@pe_int _ _ _ _))) (@po_none _))) (@pa_cons _ _ _ _ _ (@pe_op _ _ _ _ _ _ _ _ op_cat (@pe_op _ _ _ _ _ _ _ _ op_cat (@pe_slice _ _ _ _ _ _ _ _ _ _ sl_list (@pv _ 2 _ _ rfl (by walk_at "o") (by decide) (by decide)) (@po_none _) (@po_some _ _ _ (@pv _ 4 _ _ rfl (by walk_at "o") (by decide) (by decide)))) (@pe_lst _ _ _ _ (@pa_cons _ _ _ _ _ (@pe_ix _ _ _ _ _ _ _ ix_list (@pv _ 2 _ _ rfl (by walk_at "o") (by decide) (by decide)) (@pv _ 4 _ _ rfl (by walk_at "o") (by decide) (by decide)) (fun _ _ => rfl)) (@pa_nil _) (by walk_at "g")))) (@pe_slice _ _ _ _ _ _ _ _ _ _ sl_list (@pv _ 2 _ _ rfl (by walk_at "o") (by decide) (by decide)) (@po_some _ _ _ (@pv _ 4 _ _ rfl (by walk_at "o") (by decide) (by decide))) (@po_none _))) (@pa_cons _ _ _ _ _ (@pe_slice _ _ _ _ _ _ _ _ _ _ sl_list (@pv _ 2 _ _ rfl (by walk_at "o") (by decide) (by decide)) (@po_none _) (@po_some _ _ _ (@pv _ 4 _ _ rfl (by walk_at "o") (by decide) (by decide)))) (@pa_cons _ _ _ _ _ (@pe_op _ _ _ _ _ _ _ _ op_cat (@pe_op _ _ _ _ _ _ _ _ op_cat (@pe_slice _ _ _ _ _ _ _ _ _ _ sl_list (@pv _ 2 _ _ rfl (by walk_at "o") (by decide) (by decide)) (@po_none _) (@po_some _ _ _ (@pv _ 4 _ _ rfl (by walk_at "o") (by decide) (by decide)))) (@pe_slice _ _ _ _ _ _ _ _ _ _ sl_list (@pv _ 2 _ _ rfl (by walk_at "o") (by decide) (by decide)) (@po_some _ _ _ (@pe_op _ _ _ _ _ _ _ _ op_add (@pv _ 4 _ _ rfl (by walk_at "o") (by decide) (by decide)) (@pe_int _ _ _ _))) (@po_none _))) (@pe_lst _ _ _ _ (@pa_cons _ _ _ _ _ (@pe_ix _ _ _ _ _ _ _ ix_list (@pv _ 2 _ _ rfl (by walk_at "o") (by decide) (by decide)) (@pv _ 4 _ _ rfl (by walk_at "o") (by decide) (by decide)) (fun _ _ => rfl)) (@pa_nil _) (by walk_at "g")))) (@pa_nil _) (by walk_at "g")) (by walk_at "g")) (by walk_at "g")) (by walk_at "g"))) (@pe_op _ _ _ _ _ _ _ _ op_sub (@pv _ 8 _ _ rfl (by walk_at "o") (by decide) (by decide)) (@pe_int _ _ _ _)) (fun _ _ => rfl))))))))))), ?_⟩
  walk_at "rd"
  dsimp only [cxOf, Cx.nox]
  generalize mixv ns k = n
  have hat0 : 0 ≤ n % ((lines.map V.str).length : Int) := Int.emod_nonneg _ (by omega)
  have hat1 : n % ((lines.map V.str).length : Int) < ((lines.map V.str).length : Int) := Int.emod_lt_of_pos _ (by omega)
  obtain ⟨j, hj⟩ : ∃ j : Nat, n % ((lines.map V.str).length : Int) = (j : Int) := Int.eq_ofNat_of_zero_le hat0
  rw [hj] at hat0 hat1 ⊢
  have hjl : j < lines.length := by omega
  obtain ⟨y, ey⟩ : ∃ y, lines[j]? = some y := ⟨_, List.getElem?_eq_getElem hjl⟩
  have hat : atI (lines.map V.str) (j : Int) = some (.str y) := atI_nat (by rw [List.getElem?_map, ey]; rfl)
  have hy := hz y (List.mem_of_getElem? ey)
  walk_at "rd"
  intro lw nw
  rw [Tx.sp_is]
  have hjc := Tx.jl_cut y
  have hwn : 0 < (Tx.cut y).length := List.length_pos_iff.mpr (Tx.cut_pos y)
  have hwl := Tx.jl_len (Tx.cut y)
  show gName 5 (.ref lw) _ (upd H lw (.lst ((Tx.cut y).map V.str))) _
  generalize Tx.cut y = ws at hjc hwn hwl ⊢
  have s1 := Same.new nw (.lst (ws.map V.str))
  have hw1 : (upd H lw (.lst (ws.map V.str))) lw = some (.lst (ws.map V.str)) := upd_same
  have hl1 := s1 _ _ hl
  generalize upd H lw (.lst (ws.map V.str)) = H1 at s1 hw1 hl1 ⊢
  have hwl2 : ((ws.map V.str).length : Int) = (ws.length : Nat) := by rw [List.length_map]
  walk_at "rd"
  obtain ⟨sp, hsp⟩ : ∃ s : Nat, n / 9 % ((ws.map V.str).length : Int) = (s : Int) := Int.eq_ofNat_of_zero_le (Int.emod_nonneg _ (by omega))
  dsimp only
  rw [hsp]
  walk_at "rd"
  rename_i H2 s2
  intro v hv
  obtain ⟨so, rfl, hso⟩ : ∃ so : Str, v = .str so ∧ so.length ≤ 16 := by
    simp only [List.mem_cons, List.not_mem_nil, or_false] at hv
    rcases hv with rfl | rfl | rfl | rfl | rfl | rfl | rfl | rfl | rfl | rfl <;> exact ⟨_, rfl, by decide +kernel⟩
  have hw2 := s2 _ _ hw1
  have hl2 := s2 _ _ hl1
  have s12 := s1.trans s2
  clear hv
  have hwy : 0 ≤ n / 900 % 7 ∧ n / 900 % 7 < 7 := by omega
  walk_at "rd"
  dsimp only [L2.start]
  generalize n / 900 % 7 = wy at hwy ⊢
  by_cases hw3 : wy < 3
  · rw [decide_eq_true hw3, if_pos rfl]
    obtain ⟨d, hd, hjd⟩ : ∃ d, (wy = 0 ∧ d = ws.take sp ++ [so] ++ ws.drop (sp + 1) ∨ wy = 1 ∧ d = ws.take sp ++ ws.drop (sp + 1) ∨ wy = 2 ∧ d = ws ++ [so]) ∧ Tx.jl d ≤ B + 18 := by
      have h1 := Tx.jl_take sp ws
      have h2 := jl_next sp ws
      have h3 : Tx.jl [so] = so.length + 1 := by simp [Tx.jl]
      rcases (show wy = 0 ∨ wy = 1 ∨ wy = 2 by omega) with h | h | h
      · refine ⟨_, .inl ⟨h, rfl⟩, ?_⟩
        rw [Tx.jl_app, Tx.jl_app]; omega
      · refine ⟨_, .inr (.inl ⟨h, rfl⟩), ?_⟩
        rw [Tx.jl_app]; omega
      · refine ⟨_, .inr (.inr ⟨h, rfl⟩), ?_⟩
        rw [Tx.jl_app]; omega
    have e1 := List.length_take (i := sp) (l := ws)
    have e2 := List.length_drop (i := sp + 1) (l := ws)
    refine asg_BL (BL.ix3 (BL.cat (BL.cat (BL.til (BL.var rfl hw2) (IL.var rfl)) (BL.one (IL.sl (IL.var rfl))) (by rw [e1]; show _ + 1 ≤ _; omega)) (BL.from (BL.var rfl hw2) (IL.succ (IL.var rfl))) (by rw [List.length_append, e1, e2]; show _ + 1 + _ ≤ _; omega))
      (BL.cat (BL.til (BL.var rfl hw2) (IL.var rfl)) (BL.from (BL.var rfl hw2) (IL.succ (IL.var rfl))) (by rw [e1, e2]; omega)) (BL.cat (BL.var rfl hw2) (BL.one (IL.sl (IL.var rfl))) (by show _ + 1 ≤ _; omega)) (IL.var rfl) hd) fun p H3 s3 h3 => ?_
    have hl3 := s3 _ _ hl2
    have f1 := List.length_take (i := j) (l := lines)
    have f2 := List.length_drop (i := j + 1) (l := lines)
    have hjo : JoinOk Tx.sp d = true := Tx.joinOkJ (by omega)
    refine ret_BL (BL.cat (BL.cat (BL.til (BL.var rfl hl3) (IL.var rfl)) (BL.one (SL.join rfl h3 hjo)) (by rw [f1]; show _ + 1 ≤ _; omega)) (BL.from (BL.var rfl hl3) (IL.succ (IL.var rfl))) (by rw [List.length_append, f1, f2]; show _ + 1 + _ ≤ _; omega)) fun p4 H4 s4 h4 => ?_
    refine q p4 _ H4 ((s12.trans s3).trans s4) (by rw [List.length_append, List.length_append, f1, f2]; show _ + 1 + _ ≤ _; omega) (fun z hm => ?_) h4
    rcases List.mem_append.mp hm with hm | hm
    · rcases List.mem_append.mp hm with hm | hm
      · have := hz z (mem_cutj (.inl hm)); omega
      · rw [List.mem_singleton.mp hm]
        have := Tx.join_le d
        omega
    · have := hz z (mem_cutj (.inr (.inr hm))); omega
  · rw [decide_eq_false hw3, if_neg (by decide)]
    have f1 := List.length_take (i := j) (l := lines)
    have f2 := List.length_drop (i := j + 1) (l := lines)
    have f3 := List.length_drop (i := j) (l := lines)
    obtain ⟨d, hd, hdl, hdm⟩ : ∃ d, (wy - 3 = 0 ∧ d = lines.take j ++ lines.drop (j + 1) ∨ wy - 3 = 1 ∧ d = lines.take j ++ [y] ++ lines.drop j ∨ wy - 3 = 2 ∧ d = lines.take j ∨ wy - 3 = 3 ∧ d = lines.take j ++ lines.drop (j + 1) ++ [y]) ∧ d.length ≤ lines.length + 1 ∧ ∀ z ∈ d, z ∈ lines := by
      have hym := List.mem_of_getElem? ey
      rcases (show wy - 3 = 0 ∨ wy - 3 = 1 ∨ wy - 3 = 2 ∨ wy - 3 = 3 by omega) with h | h | h | h
      · refine ⟨_, .inl ⟨h, rfl⟩, by rw [List.length_append, f1, f2]; omega, fun z hm => ?_⟩
        rcases List.mem_append.mp hm with hm | hm
        · exact mem_cutj (.inl hm)
        · exact mem_cutj (.inr (.inr hm))
      · refine ⟨_, .inr (.inl ⟨h, rfl⟩), by rw [List.length_append, List.length_append, f1, f3]; show _ + 1 + _ ≤ _; omega, fun z hm => ?_⟩
        rcases List.mem_append.mp hm with hm | hm
        · rcases List.mem_append.mp hm with hm | hm
          · exact mem_cutj (.inl hm)
          · rw [List.mem_singleton.mp hm]; exact hym
        · exact mem_cutj (.inr (.inl hm))
      · exact ⟨_, .inr (.inr (.inl ⟨h, rfl⟩)), by rw [f1]; omega, fun z hm => mem_cutj (.inl hm)⟩
      · refine ⟨_, .inr (.inr (.inr ⟨h, rfl⟩)), by rw [List.length_append, List.length_append, f1, f2]; show _ + _ + 1 ≤ _; omega, fun z hm => ?_⟩
        rcases List.mem_append.mp hm with hm | hm
        · rcases List.mem_append.mp hm with hm | hm
          · exact mem_cutj (.inl hm)
          · exact mem_cutj (.inr (.inr hm))
        · rw [List.mem_singleton.mp hm]; exact hym
    unfold tNext
    dsimp only
    refine ret_BL (BL.ix4 (BL.cat (BL.til (BL.var rfl hl2) (IL.var rfl)) (BL.from (BL.var rfl hl2) (IL.succ (IL.var rfl))) (by rw [f1, f2]; omega))
      (BL.cat (BL.cat (BL.til (BL.var rfl hl2) (IL.var rfl)) (BL.one (SL.item rfl hl2 (IL.var rfl) hat)) (by rw [f1]; show _ + 1 ≤ _; omega)) (BL.from (BL.var rfl hl2) (IL.var rfl)) (by rw [List.length_append, f1, f3]; show _ + 1 + _ ≤ _; omega))
      (BL.til (BL.var rfl hl2) (IL.var rfl))
      (BL.cat (BL.cat (BL.til (BL.var rfl hl2) (IL.var rfl)) (BL.from (BL.var rfl hl2) (IL.succ (IL.var rfl))) (by rw [f1, f2]; omega)) (BL.one (SL.item rfl hl2 (IL.var rfl) hat)) (by rw [List.length_append, f1, f2]; show _ + _ + 1 ≤ _; omega))
      (IL.sub (IL.var rfl) IL.const) hd) fun p4 H4 s4 h4 => ?_
    refine q p4 d H4 (s12.trans s4) hdl (fun z hm => ?_) h4
    have := hz z (hdm z hm)
    omega
end
end Sp

set_option Elab.async false
set_option linter.all false
set_option maxRecDepth 100000
set_option maxHeartbeats 4000000


namespace Sp
open PySem L2
section
variable {P : Program} {w : World} {K : PySem.W.Frag} {mg : Str → Option Value} {base : Heap} {CP CD CB CL CN CS CO aW fI : Addr}
noncomputable def spNumL : Sp := fun vs H Q _ => ∃ z : Str, vs = [.str z] ∧ z.length ≤ 1000 ∧ ∀ H', Same H H' → Q (.bl (Tx.okNum z)) H'
theorem scLnumber : FnScope ["_law_word", "_law_good"] ["_law_word"] (defScope s_Lnumber) := ⟨rfl, rfl, rfl, by decide +kernel, rfl, by decide +kernel, by decide +kernel⟩
theorem ok_Lnumber {f : Addr} {fd : FuncData} (F : Fun K "_law_number" "_law_number" s_Lnumber f fd) (Z : ZL mg) : FnOk P w K mg base CX0 1 f fd ["_law_word"] spNumL := by
  refine F.ok scLnumber (fun vs H Q E h => ?_) (fun cdv A outer s₀ H vs Q E hr h => ?_)
  · obtain ⟨n, rfl, _⟩ := h
    rfl
  obtain ⟨z, rfl, hz, q⟩ := h
  have hsl : z.length ≤ sizeLine := by rw [sizeLine_eq]; omega
  refine ⟨_, (@pss_cons _ _ _ _ _ (@ps_set _ _ (1) _ _ _ _ scLnumber.nd rfl (Or.inl rfl) (@pe_and _ _ _ _ _ _ _ (@pe_chain _ _ _ _ _ _ _ _ _ _ _ _ op_le op_le (@pe_int _ _ _ _) (@pe_callB _ _ _ _ _ _ _ _ _ call_len_str rfl Z.len (by decide +kernel) (@pa_cons _ _ _ _ _ (@pv _ 0 _ _ rfl (by walk_at "o") (by decide) (by decide)) (@pa_nil _) (by walk_at "g")) (by decide) (by decide) (by walk_at "g") rfl) (@pe_int _ _ _ _) (by with_unfolding_all rfl)) (@pe_one _ _ _ _ _ (@pe_callB _ _ _ _ _ _ _ _ _ (call_allL rfl) rfl Z.all (by decide +kernel) (@pa_cons _ _ _ _ _ (@pe_comp _ _ _ _ _ _ (defScope s_Lnumber) _ (["_law_word", "_law_good"]) (["_law_word", "_law_good", "_law_sign"]) (["_law_sign"]) _ _ _ _ _ rfl rfl rfl (.of (by decide +kernel)) (@pi_str _ _ _ _ (@pv _ 0 _ _ rfl (by walk_at "o") (by decide) (by decide))) takes_name (fun _ _ _ _ _ => @pg_name _ _ (2) _ (show List.Nodup (["_law_word", "_law_good", "_law_sign"] : List Str) by decide +kernel) rfl (Or.inl rfl) (by walk_at "f")) (fun _ _ _ _ _ => @pif_nil _) (fun _ _ _ _ _ => (@pe_cmpR _ _ _ _ _ _ _ _ op_in_str (@pv _ 2 _ _ rfl (by walk_at "o") (by decide) (by decide)) (@pe_str _ _ _ _) (by with_unfolding_all rfl))) (by walk_at "g")) (@pa_nil _) (by walk_at "g")) (by decide) (by decide) (by walk_at "g") rfl))) (by walk_at "g") (by walk_at "f")) (@pss_one _ _ _ (@ps_ret _ _ _ _ (@pe_and _ _ _ _ _ _ _ (@pv _ 1 _ _ rfl (by walk_at "o") (by decide) (by decide)) (@pe_one _ _ _ _ _ (@pe_or _ _ _ _ _ _ _ (@pe_cmpR _ _ _ _ _ _ _ _ op_eq (@pv _ 0 _ _ rfl (by walk_at "o") (by decide) (by decide)) (@pe_str _ _ _ _) (nomark _)) (@pe_one _ _ _ _ _ (@pe_cmpR _ _ _ _ _ _ _ _ op_ne (@pe_ix _ _ _ _ _ _ _ ix_str (@pv _ 0 _ _ rfl (by walk_at "o") (by decide) (by decide)) (@pe_int _ _ _ _) (fun _ _ => rfl)) (@pe_str _ _ _ _) (nomark _))))))))), ?_⟩
  by_cases l1 : 1 ≤ z.length
  · by_cases l2 : z.length ≤ 15
    · have el := Tx.len_eq z
      obtain ⟨c, r, e0⟩ : ∃ c r, z.cps.toList = c :: r := by
        cases e : z.cps.toList with
        | nil => rw [e] at el; have : z.length = 0 := el.symm; omega
        | cons c r => exact ⟨c, r, rfl⟩
      have hat : atI z.cps.toList 0 = some c := by
        have q : atI z.cps.toList ((0 : Nat) : Int) = some c := atI_nat (by rw [e0]; rfl)
        exact q
      walk_at "rd"
      intro acc n1
      refine comp_str (z := z) (fun i ys H2 => ys = ((z.cps.toList.take i).map dg).map V.bl ∧ Same H H2 ∧ H2 acc = some (.lst ys)) ?_ ?_ ?_
      · exact ⟨rfl, Same.new n1 _, upd_same⟩
      · rintro i d ys H2 hi hd ⟨rfl, s2, hac⟩
        have hd2 : z.cps.toList[i]? = some d := by rw [← hd]; simp
        have hf := Tx.figD d
        have hsz : (((z.cps.toList.take i).map dg).map V.bl).length < sizeLine := by
          rw [List.length_map, List.length_map, List.length_take, el, sizeLine_eq]
          omega
        walk_at "rd"
        rw [hf]
        refine cstep hi ⟨?_, s2.mut n1, upd_same⟩
        rw [List.take_succ, hd2, List.map_append, List.map_append]
        rfl
      · rintro ys H2 ⟨rfl, s2, hac⟩
        have e9 : z.cps.toList.take z.cps.size = z.cps.toList := List.take_of_length_le (by rw [el]; exact Nat.le_refl _)
        rw [e9] at hac
        refine ⟨acc, z.cps.toList.map dg, rfl, SqL.of hac, ?_⟩
        cases hA : (z.cps.toList.map dg).all id with
        | false =>
          have eN : Tx.okNum z = false := Bool.eq_false_iff.mpr fun e => by
            have n := Tx.okNum_iff.mp e
            rw [okNum_all l1 l2 n.h, e] at hA
            cases hA
          walk_at "rd"
          rw [← eN]
          exact q H2 s2
        | true =>
          by_cases h48 : c = 48
          · subst h48
            by_cases l3 : z.length = 1
            · have eN : Tx.okNum z = true := by rw [← okNum_all l1 l2 (.inl l3)]; exact hA
              have ez : z = Str.ofString "0" := by
                rw [show Str.ofString "0" = ⟨#[48]⟩ by decide +kernel]
                refine Str.ext' (Array.toList_inj.mp ?_)
                have : r = [] := by
                  rw [e0, List.length_cons] at el
                  exact List.length_eq_zero_iff.mp (by omega)
                rw [e0, this]
              have ed : decide (V.str z = V.str (Str.ofString "0")) = true := decide_eq_true (by rw [ez])
              walk_at "rd"
              rw [ed]
              walk_at "rd"
              rw [← eN]
              exact q H2 s2
            · have eN := okNum_zero e0 l3
              have ed : decide (V.str z = V.str (Str.ofString "0")) = false := decide_eq_false fun e => l3 (by rw [V.str.inj e]; decide +kernel)
              have ed2 : decide (V.str ⟨#[48]⟩ = V.str (Str.ofString "0")) = true := by decide
              walk_at "rd"
              rw [ed]
              walk_at "rd"
              refine ⟨z, 0, 48, rfl, rfl, hsl, hat, ?_⟩
              refine ⟨rfl, ?_⟩
              rw [ed2]
              have q2 := q H2 s2
              rw [eN] at q2
              exact q2
          · have eN : Tx.okNum z = true := by
              rw [← okNum_all l1 l2 (.inr (by rw [e0]; exact fun y => h48 (Option.some.inj y)))]; exact hA
            have ed2 : decide (V.str ⟨#[c]⟩ = V.str (Str.ofString "0")) = false := by
              refine decide_eq_false fun z => h48 ?_
              have z := V.str.inj z
              rw [show Str.ofString "0" = ⟨#[48]⟩ by decide +kernel] at z
              cases z
              rfl
            have ed : decide (V.str z = V.str (Str.ofString "0")) = false := decide_eq_false fun e => h48 (by
              have e := V.str.inj e
              rw [e, show Str.ofString "0" = ⟨#[48]⟩ by decide +kernel] at e0
              exact (List.cons.inj e0).1.symm)
            walk_at "rd"
            rw [ed]
            walk_at "rd"
            refine ⟨z, 0, c, rfl, rfl, hsl, hat, ?_⟩
            refine ⟨rfl, ?_⟩
            rw [ed2]
            have q2 := q H2 s2
            rw [eN] at q2
            exact q2
    · have eN := okNum_long (z := z) (fun h => l2 h.2)
      walk_at "rd"
      rw [← eN]
      exact q H Same.refl'
  · have eN := okNum_long (z := z) (fun h => l1 h.1)
    walk_at "rd"
    rw [← eN]
    exact q H Same.refl'
/-! ### the law's own look -/
theorem words_at {k : Nat} {w : Str} (h8 : k < 8) (h1 : k ≠ 1) (e : words9[k]? = some w) : w ≠ "sent" ∧ w ≠ "running" := by
  have : ∀ k : Fin 8, k.1 ≠ 1 → ∀ w, words9[k.1]? = some w → w ≠ "sent" ∧ w ≠ "running" := by decide +kernel
  exact this ⟨k, h8⟩ h1 w e
theorem num_one : Tx.num 1 = Str.ofString "1" := by decide +kernel
theorem num_nil : Tx.num 0 = Str.ofString "0" := by decide +kernel
theorem val_is {t : Str} {n : Int} (h : Tx.okNum t = true) (hn : Tx.okNum (Tx.num n) = true) (hv : Tx.val (Tx.num n) = n) : Tx.val t = n ↔ t = Tx.num n := by
  constructor
  · intro e
    rw [← e, (Tx.okNum_iff.mp h).back]
  · intro e
    rw [e, hv]
theorem fit_two {y p t : Str} {L : Int} (ec : Tx.cut y = [p, t]) (h : Tx.okNum t = true) : fitB "running" (rowOf y) L = (decide (t = "0") || decide (t = "1")) := by
  have er : rowOf y = [Tx.val t] := by unfold rowOf; rw [ec]; rfl
  unfold fitB
  rw [if_neg (by decide), if_pos rfl, er]
  have h0 := val_is (n := 0) h (by decide +kernel) (by decide +kernel)
  have h1 := val_is (n := 1) h (by decide +kernel) (by decide +kernel)
  rw [num_nil] at h0
  rw [num_one] at h1
  congr 1
  · exact decide_eq_decide.mpr ⟨fun e => h0.mp (List.cons.inj e).1, fun e => by rw [h0.mpr e]⟩
  · exact decide_eq_decide.mpr ⟨fun e => h1.mp (List.cons.inj e).1, fun e => by rw [h1.mpr e]⟩
noncomputable def spDueL : Sp := fun vs H Q _ => ∃ (l : Addr) (lines : List Str) (L : Int), vs = [.ref l, .int L] ∧ H l = some (.lst (lines.map V.str)) ∧ (∀ z ∈ lines, z.length ≤ 900) ∧ lines.length ≤ 1000 ∧ ∀ H', Same H H' → Q (.int (due lines L)) H'
theorem scLdue : FnScope ["_law_lines", "_law_longest", "_law_k", "_law_words_here", "_law_good"] ["_law_lines", "_law_longest"] (defScope s_Ldue) := ⟨rfl, rfl, rfl, by decide +kernel, rfl, by decide +kernel, by decide +kernel⟩
theorem ok_Ldue {f f1 f2 : Addr} {fd fd1 fd2 : FuncData} (F : Fun K "_law_due" "_law_due" s_Ldue f fd) (Z : ZL mg) (B_Lwords : Fn P w K mg base CX0 1 "_law_words" [] spWords f1 fd1) (B_Lnumber : Fn P w K mg base CX0 1 "_law_number" ["_law_word"] spNumL f2 fd2) : FnOk P w K mg base CX0 2 f fd ["_law_lines", "_law_longest"] spDueL := by
  refine F.ok scLdue (fun vs H Q E h => ?_) (fun cdv A outer s₀ H vs Q E hr h => ?_)
  · obtain ⟨l, lines, L, rfl, _⟩ := h
    rfl
  obtain ⟨l, lines, L, rfl, hl, hz, hn, q⟩ := h
  have hll : ((lines.map V.str).length : Int) = (lines.length : Nat) := by rw [List.length_map]
  refine ⟨_, (@pss_cons _ _ _ _ _ (@ps_for _ _ _ _ _ _ _ _ PassesOwn.never rfl (@pi_range1 _ _ _ _ _ _ rfl Z.range (@pa_cons _ _ _ _ _ (@pe_int _ _ _ _) (@pa_nil _) (by walk_at "g")) (by walk_at "g")) (@pg_name _ _ (2) _ scLdue.nd rfl (Or.inl rfl) (by walk_at "f")) (@pss_cons _ _ _ _ _ (@ps_if _ _ _ _ _ _ _ _ (@pt_cmpR _ _ _ _ _ _ _ _ op_ge (@pv _ 2 _ _ rfl (by walk_at "o") (by decide) (by decide)) (@pe_callB _ _ _ _ _ _ _ _ _ call_len_seq rfl Z.len (by decide +kernel) (@pa_cons _ _ _ _ _ (@pv _ 0 _ _ rfl (by walk_at "o") (by decide) (by decide)) (@pa_nil _) (by walk_at "g")) (by decide) (by decide) (by walk_at "g") rfl) (nomark _)) (@pss_one _ _ _ (@ps_ret _ _ _ _ (@pe_op _ _ _ _ _ _ _ _ op_add (@pv _ 2 _ _ rfl (by walk_at "o") (by decide) (by decide)) (@pe_int _ _ _ _)))) (@pss_nil _)) (@pss_cons _ _ _ _ _ (@ps_set _ _ (3) _ _ _ _ scLdue.nd rfl (Or.inl rfl) (@pe_bm _ _ _ _ _ _ _ _ _ _ _ _ PySem.F.plainAttrs_str PySem.F.slot_str_split PySem.F.type_str_split mt_split (@pe_ix _ _ _ _ _ _ _ ix_list (@pv _ 0 _ _ rfl (by walk_at "o") (by decide) (by decide)) (@pv _ 2 _ _ rfl (by walk_at "o") (by decide) (by decide)) (fun _ _ => rfl)) (@pa_cons _ _ _ _ _ (@pe_str _ _ _ _) (@pa_nil _) (by walk_at "g")) (by walk_at "g") (by walk_at "g") (by walk_at "g") (by walk_at "g") (by walk_at "g")) (by walk_at "g") (by walk_at "f")) (@pss_cons _ _ _ _ _ (@ps_set _ _ (4) _ _ _ _ scLdue.nd rfl (Or.inl rfl) (@pe_and _ _ _ _ _ _ _ (@pe_cmpR _ _ _ _ _ _ _ _ op_eq (@pe_ix _ _ _ _ _ _ _ ix_list (@pv _ 3 _ _ rfl (by walk_at "o") (by decide) (by decide)) (@pe_int _ _ _ _) (fun _ _ => rfl)) (@pe_ix _ _ _ _ _ _ _ ix_list (@pe_call0 _ _ _ _ _ _ _ _ _ _ _ _ _ B_Lwords.ok (Room.mono hr (by decide)) rfl B_Lwords.m B_Lwords.kp B_Lwords.b .nil pass0 (by decide)) (@pv _ 2 _ _ rfl (by walk_at "o") (by decide) (by decide)) (fun _ _ => rfl)) (nomark _)) (@pe_one _ _ _ _ _ (@pe_callB _ _ _ _ _ _ _ _ _ (call_allL rfl) rfl Z.all (by decide +kernel) (@pa_cons _ _ _ _ _ (@pe_comp _ _ _ _ _ _ (defScope s_Ldue) _ (["_law_lines", "_law_longest", "_law_k", "_law_words_here", "_law_good"]) (["_law_lines", "_law_longest", "_law_k", "_law_words_here", "_law_good", "_law_word"]) (["_law_word"]) _ _ _ _ _ rfl rfl rfl (.of (by decide +kernel)) (@pi_list _ _ _ _ (@pe_slice _ _ _ _ _ _ _ _ _ _ sl_list (@pv _ 3 _ _ rfl (by walk_at "o") (by decide) (by decide)) (@po_some _ _ _ (@pe_int _ _ _ _)) (@po_none _))) takes_name (fun _ _ _ _ _ => @pg_name _ _ (5) _ (show List.Nodup (["_law_lines", "_law_longest", "_law_k", "_law_words_here", "_law_good", "_law_word"] : List Str) by decide +kernel) rfl (Or.inl rfl) (by walk_at "f")) (fun _ _ _ _ _ => @pif_nil _) (fun _ _ _ _ _ => (@pe_call _ _ _ _ _ _ _ _ _ _ _ _ _ _ _ _ B_Lnumber.ok (Room.mono hr (by decide)) rfl B_Lnumber.m B_Lnumber.kp B_Lnumber.b .nil pass0 (@pa_cons _ _ _ _ _ (@pv _ 5 _ _ rfl (by walk_at "o") (by decide) (by decide)) (@pa_nil _) (by walk_at "g")) (by decide) (by walk_at "g") rfl)) (by walk_at "g")) (@pa_nil _) (by walk_at "g")) (by decide) (by decide) (by walk_at "g") rfl))) (by walk_at "g") (by walk_at "f")) (@pss_cons _ _ _ _ _ (@ps_if _ _ _ _ _ _ _ _ (PW.pt (@pw_or _ _ _ _ _ _ _ (@pt_not _ _ _ _ (@pt_truth _ _ _ (@pv _ 4 _ _ rfl (by walk_at "o") (by decide) (by decide)) (fun _ => rfl))) (@pw_or _ _ _ _ _ _ _ (PW.pt (@pw_and _ _ _ _ _ _ _ (@pt_cmpR _ _ _ _ _ _ _ _ op_lt (@pv _ 2 _ _ rfl (by walk_at "o") (by decide) (by decide)) (@pe_int _ _ _ _) (nomark _)) (@pw_and1 _ _ _ _ (@pt_cmpR _ _ _ _ _ _ _ _ op_ne (@pe_callB _ _ _ _ _ _ _ _ _ call_len_seq rfl Z.len (by decide +kernel) (@pa_cons _ _ _ _ _ (@pv _ 3 _ _ rfl (by walk_at "o") (by decide) (by decide)) (@pa_nil _) (by walk_at "g")) (by decide) (by decide) (by walk_at "g") rfl) (@pe_int _ _ _ _) (nomark _))))) (@pw_or1 _ _ _ _ (PW.pt (@pw_and _ _ _ _ _ _ _ (@pt_cmpR _ _ _ _ _ _ _ _ op_eq (@pv _ 2 _ _ rfl (by walk_at "o") (by decide) (by decide)) (@pe_int _ _ _ _) (nomark _)) (@pw_and1 _ _ _ _ (@pt_cmpR _ _ _ _ _ _ _ _ op_notIn_seq (@pe_ix _ _ _ _ _ _ _ ix_list (@pv _ 3 _ _ rfl (by walk_at "o") (by decide) (by decide)) (@pe_int _ _ _ _) (fun _ _ => rfl)) (@pe_tup _ _ _ _ _ (@pa_cons _ _ _ _ _ (@pe_str _ _ _ _) (@pa_cons _ _ _ _ _ (@pe_str _ _ _ _) (@pa_nil _) (by walk_at "g")) (by walk_at "g"))) (by with_unfolding_all rfl))))))))) (@pss_one _ _ _ (@ps_ret _ _ _ _ (@pe_op _ _ _ _ _ _ _ _ op_add (@pv _ 2 _ _ rfl (by walk_at "o") (by decide) (by decide)) (@pe_int _ _ _ _)))) (@pss_nil _)) (@pss_one _ _ _ (@ps_if _ _ _ _ _ _ _ _ (PW.pt (@pw_and _ _ _ _ _ _ _ (@pt_cmpR _ _ _ _ _ _ _ _ op_eq (@pv _ 2 _ _ rfl (by walk_at "o") (by decide) (by decide)) (@pe_int _ _ _ _) (nomark _)) (@pw_and1 _ _ _ _ (@pt_cmpR _ _ _ _ _ _ _ _ op_gt (@pe_op _ _ _ _ _ _ _ _ op_sub (@pe_callB _ _ _ _ _ _ _ _ _ call_len_seq rfl Z.len (by decide +kernel) (@pa_cons _ _ _ _ _ (@pv _ 3 _ _ rfl (by walk_at "o") (by decide) (by decide)) (@pa_nil _) (by walk_at "g")) (by decide) (by decide) (by walk_at "g") rfl) (@pe_int _ _ _ _)) (@pv _ 1 _ _ rfl (by walk_at "o") (by decide) (by decide)) (nomark _))))) (@pss_one _ _ _ (@ps_ret _ _ _ _ (@pe_op _ _ _ _ _ _ _ _ op_add (@pv _ 2 _ _ rfl (by walk_at "o") (by decide) (by decide)) (@pe_int _ _ _ _)))) (@pss_nil _))))))) (by walk_at "g")) (@pss_one _ _ _ (@ps_ret _ _ _ _ (@pe_ifExp _ _ _ _ _ _ _ _ (@pt_cmpR _ _ _ _ _ _ _ _ op_eq (@pe_callB _ _ _ _ _ _ _ _ _ call_len_seq rfl Z.len (by decide +kernel) (@pa_cons _ _ _ _ _ (@pv _ 0 _ _ rfl (by walk_at "o") (by decide) (by decide)) (@pa_nil _) (by walk_at "g")) (by decide) (by decide) (by walk_at "g") rfl) (@pe_int _ _ _ _) (nomark _)) (@pe_int _ _ _ _) (@pe_int _ _ _ _))))), ?_⟩
  dsimp only [cxOf, Cx.nox]
  walk_at "rd"
  refine for_range (fun i σ H3 => ∃ (v2 v3 v4 : Option V), σ = [some (.ref l), some (.int L), v2, v3, v4] ∧ Same H H3 ∧ ∀ k, k < i → lineAt lines L k = true) ?_ ?_ ?_
  · exact ⟨none, none, none, rfl, Same.refl', fun k h => absurd h (Nat.not_lt_zero k)⟩
  · rintro i σ H3 hi ⟨v2, v3, v4, rfl, s3, hG⟩
    have hi9 : i < 9 := hi
    have hl3 := s3 _ _ hl
    obtain ⟨wd, ewd⟩ : ∃ wd, words9[i]? = some wd := ⟨_, List.getElem?_eq_getElem (show i < 9 from hi9)⟩
    have bad : lineAt lines L i = false → ∀ H', Same H H' → Q (.int (0 + (i : Int) + 1)) H' := fun hf => by
      have ed := due_at hi9 hG hf
      rw [Int.zero_add, ← ed]
      exact q
    by_cases hil : i < lines.length
    · obtain ⟨y, ey⟩ : ∃ y, lines[i]? = some y := ⟨_, List.getElem?_eq_getElem hil⟩
      have hat : atI (lines.map V.str) (0 + (i : Int)) = some (.str y) := by rw [Int.zero_add]; exact atI_nat (by rw [List.getElem?_map, ey]; rfl)
      have hy := hz y (List.mem_of_getElem? ey)
      have eA : lineAt lines L i = (lnOk wd y && fitB wd (rowOf y) L) := by unfold lineAt; rw [ey, ewd]
      walk_at "rd"
      intro lp np
      rw [Tx.sp_is]
      obtain ⟨p, ts, ec⟩ : ∃ p ts, Tx.cut y = p :: ts := by
        cases e : Tx.cut y with
        | nil => exact absurd e (Tx.cut_pos y)
        | cons p ts => exact ⟨p, ts, rfl⟩
      have hj := Tx.jl_cut y
      have hln := Tx.jl_len (Tx.cut y)
      have hmem : ∀ t ∈ ts, t.length ≤ 900 := fun t ht => by
        have := Tx.jl_mem (a := Tx.cut y) (t := t) (by rw [ec]; exact List.mem_cons_of_mem _ ht)
        omega
      have htl : ts.length ≤ 900 := by
        have h := hln
        rw [hj, ec, List.length_cons] at h
        omega
      have eL : lnOk wd y = (decide (p = wd) && ts.all Tx.okNum) := by
        unfold lnOk
        rw [ec]
        show (decide (some p = some wd) && _) = _
        rw [show decide (some p = some wd) = decide (p = wd) from decide_eq_decide.mpr ⟨Option.some.inj, congrArg some⟩]
        rfl
      have eR : rowOf y = ts.map Tx.val := by unfold rowOf; rw [ec]; rfl
      rw [show Txt.split y Tx.sp = p :: ts from ec]
      have s4 := Same.new np (.lst ((p :: ts).map V.str))
      have hp4 : (upd H3 lp (.lst ((p :: ts).map V.str))) lp = some (.lst ((p :: ts).map V.str)) := upd_same
      generalize upd H3 lp (.lst ((p :: ts).map V.str)) = H4 at s4 hp4 ⊢
      have s34 := s3.trans s4
      have a0 : atI ((p :: ts).map V.str) 0 = some (.str p) := by
        have q : atI ((p :: ts).map V.str) ((0 : Nat) : Int) = some (.str p) := atI_nat rfl
        exact q
      walk_at "rd"
      intro lw H5 s5 nw hw
      have hp5 := s5 _ _ hp4
      have s35 := s34.trans s5
      have hawd : atI (words9.map V.str) (0 + (i : Int)) = some (.str wd) := by rw [Int.zero_add]; exact atI_nat (by rw [List.getElem?_map, ewd]; rfl)
      walk_at "rd"
      by_cases hpz : p = wd
      · subst hpz
        have en : decide (V.str p = V.str p) = true := decide_eq_true rfl
        rw [decide_eq_true rfl, Bool.true_and] at eL
        walk_at "rd"
        refine ⟨lp, _, rfl, SqL.of hp5, fun lt nt => ?_⟩
        have e1 : cutV ((p :: ts).map V.str) (some 1) none = ts.map V.str := by
          have := cut_from (xs := (p :: ts).map V.str) (k := 1)
          exact this
        rw [e1]
        have s6 := Same.new nt (.lst (ts.map V.str))
        have hp6 := s6 _ _ hp5
        have ht6 : (upd H5 lt (.lst (ts.map V.str))) lt = some (.lst (ts.map V.str)) := upd_same
        generalize upd H5 lt (.lst (ts.map V.str)) = H6 at s6 hp6 ht6 ⊢
        have s36 := s35.trans s6
        have getN : ∀ {i : Nat} {x : V}, (ts.map V.str)[i]? = some x → ∃ t, ts[i]? = some t ∧ x = .str t := fun {i x} hx => by
          rw [List.getElem?_map] at hx
          cases e : ts[i]? with
          | none => rw [e] at hx; cases hx
          | some n => rw [e] at hx; exact ⟨n, rfl, (Option.some.inj hx).symm⟩
        walk_at "rd"
        intro acc n7
        refine comp_list (xs := ts.map V.str) (fun i ys H7 => ys = ((ts.take i).map Tx.okNum).map V.bl ∧ Same H6 H7 ∧ H7 acc = some (.lst ys)) ?_ ?_ ?_ ?_
        · exact ⟨rfl, Same.new n7 _, upd_same⟩
        · rintro i ys H7 _ ⟨_, s7, _⟩
          exact SqL.of (s7 _ _ ht6)
        · rintro i x ys H7 hi hx ⟨rfl, s7, hac⟩
          obtain ⟨t, et, rfl⟩ := getN hx
          have htm := hmem t (List.mem_of_getElem? et)
          have hsz : (((ts.take i).map Tx.okNum).map V.bl).length < sizeLine := by rw [List.length_map, List.length_map, List.length_take, sizeLine_eq]; omega
          have ht1 : t.length ≤ 1000 := by omega
          walk_at "rd"
          rename_i H8 s8
          refine ⟨s8 _ _ hac, hsz, cstep hi ⟨?_, (s7.trans s8).mut n7, upd_same⟩⟩
          rw [List.take_succ, et, List.map_append, List.map_append]
          rfl
        · rintro ys H7 ⟨rfl, s7, hac⟩
          rw [List.length_map, List.take_length] at hac
          have hp7 := s7 _ _ hp6
          have s37 := s36.trans s7
          have eAl : (ts.map Tx.okNum).all id = ts.all Tx.okNum := by rw [List.all_map]; rfl
          refine ⟨acc, ts.map Tx.okNum, rfl, SqL.of hac, ?_⟩
          rw [eAl]
          have hlen : (((p :: ts).map V.str).length : Int) = (ts.length : Int) + 1 := by rw [List.length_map, List.length_cons]; rfl
          cases hA : ts.all Tx.okNum with
          | false =>
            have hbad := bad (by rw [eA, eL, hA]; rfl)
            walk_at "rd"
            exact hbad H7 s37
          | true =>
            rw [eL, hA, Bool.true_and] at eA
            have eRl : (rowOf y).length = ts.length := by rw [eR, List.length_map]
            have fin : lineAt lines L i = true → ∀ k, k < i + 1 → lineAt lines L k = true := fun h k hk => by
              by_cases hki : k < i
              · exact hG k hki
              · rw [show k = i by omega]; exact h
            walk_at "rd"
            by_cases h8 : i < 8
            · by_cases ht1 : ts.length = 1
              · have e2 : decide (V.int (((p :: ts).map V.str).length : Int) = V.int 2) = true := decide_eq_true (by rw [hlen, ht1]; rfl)
                by_cases hi1 : i = 1
                · subst hi1
                  have ep : p = Str.ofString "running" := (Option.some.inj ewd).symm
                  obtain ⟨t, rfl⟩ : ∃ t, ts = [t] := by
                    match ts, ht1 with
                    | [t], _ => exact ⟨t, rfl⟩
                  have hok : Tx.okNum t = true := List.all_eq_true.mp hA t (by simp)
                  rw [ep, fit_two ec hok] at eA
                  have a1 : atI (([p, t]).map V.str) 1 = some (.str t) := rfl
                  walk_at "rd"
                  intro pt npt
                  refine ⟨pt, [.str (Str.ofString "0"), .str (Str.ofString "1")], rfl, .inr (SqT.of upd_same), rfl, rfl, ?_⟩
                  have eI : (if (true : Bool) = true then !inV (V.str t) [.str (Str.ofString "0"), .str (Str.ofString "1")] else inV (V.str t) [.str (Str.ofString "0"), .str (Str.ofString "1")]) = !(decide (t = Str.ofString "0") || decide (t = Str.ofString "1")) := by
                    rw [if_pos rfl]
                    congr 1
                    show (_ || (_ || false)) = _
                    rw [Bool.or_false]
                    congr 1 <;> exact decide_eq_decide.mpr ⟨fun e => e.symm, fun e => e.symm⟩
                  rw [eI]
                  cases hc : (decide (t = Str.ofString "0") || decide (t = Str.ofString "1")) with
                  | false =>
                    have hbad := bad (by rw [eA]; exact hc)
                    walk_at "rd"
                    exact hbad _ (s37.trans (Same.new npt _))
                  | true =>
                    have s38 := s37.trans (Same.new npt (.tup [.str (Str.ofString "0"), .str (Str.ofString "1")]))
                    have hA1 := fin (by rw [eA]; exact hc)
                    walk_at "rd"
                    trace_state
                    exact hA1
                · have hfit : lineAt lines L i = true := by
                    obtain ⟨w1, w2⟩ := words_at h8 hi1 ewd
                    rw [eA]
                    unfold fitB
                    rw [if_neg w1, if_neg w2, eRl]
                    exact decide_eq_true ht1
                  walk_at "rd"
                  exact fin hfit
              · have e2 : decide (V.int (((p :: ts).map V.str).length : Int) = V.int 2) = false := decide_eq_false fun e => ht1 (by have := V.int.inj e; rw [hlen] at this; omega)
                have hbad := bad (by
                  rw [eA]
                  unfold fitB
                  by_cases hi1 : i = 1
                  · subst hi1
                    rw [show p = Str.ofString "running" from (Option.some.inj ewd).symm, if_neg (by decide), if_pos rfl]
                    rw [decide_eq_false (fun e => ht1 (by rw [← eRl, e]; rfl)), decide_eq_false (fun e => ht1 (by rw [← eRl, e]; rfl))]
                    rfl
                  · obtain ⟨w1, w2⟩ := words_at h8 hi1 ewd
                    rw [if_neg w1, if_neg w2, eRl]
                    exact decide_eq_false ht1)
                walk_at "rd"
                exact hbad H7 s37
            · have hi8 : i = 8 := by omega
              subst hi8
              have ep : p = Str.ofString "sent" := (Option.some.inj ewd).symm
              have eF : fitB p (rowOf y) L = decide ((ts.length : Int) ≤ L) := by rw [ep]; unfold fitB; rw [if_pos rfl, eRl]
              rw [eF] at eA
              by_cases hL : (ts.length : Int) ≤ L
              · rw [decide_eq_true hL] at eA
                walk_at "rd"
                exact fin eA
              · rw [decide_eq_false hL] at eA
                have hbad := bad eA
                walk_at "rd"
                exact hbad H7 s37
      · have hbad := bad (by rw [eA, eL, decide_eq_false hpz]; rfl)
        have en : decide (V.str p = V.str wd) = false := decide_eq_false fun e => hpz (V.str.inj e)
        walk_at "rd"
        rw [en]
        walk_at "rd"
        exact hbad H5 s35
    · have hbad := bad (by unfold lineAt; rw [List.getElem?_eq_none (by omega)])
      walk_at "rd"
      exact hbad H3 s3
  · rintro σ H3 ⟨v2, v3, v4, rfl, s3, hG⟩
    have hl3 := s3 _ _ hl
    have hG9 : ∀ k, k < 9 → lineAt lines L k = true := hG
    have h8 := lineAt_lt (hG9 8 (by decide))
    have ed := due_all hG9
    by_cases h9 : lines.length = 9
    · rw [if_pos h9] at ed
      have e9 : decide (V.int ((lines.map V.str).length : Int) = V.int 9) = true := decide_eq_true (by rw [hll, h9]; rfl)
      walk_at "rd"
      have q2 := q H3 s3
      rw [ed] at q2
      exact q2
    · rw [if_neg h9] at ed
      have e9 : decide (V.int ((lines.map V.str).length : Int) = V.int 9) = false := decide_eq_false fun e => h9 (by have := V.int.inj e; omega)
      walk_at "rd"
      have q2 := q H3 s3
      rw [ed] at q2
      exact q2
end
end Sp

set_option Elab.async false
set_option linter.all false
set_option maxRecDepth 100000
set_option maxHeartbeats 4000000


namespace Sp
open PySem L2
section
variable {P : Program} {w : World} {K : PySem.W.Frag} {mg : Str → Option Value} {base : Heap} {CP CD CB CL CN CS CO aW fI : Addr}
noncomputable def spLaw (K : PySem.W.Frag) : Sp := fun vs H Q _ => ∃ (a : Addr) (ns : List Int), vs = [.ref a] ∧ SqL K H a (ns.map V.int) ∧ ns.length ≤ 63 ∧ ∀ H', Q (.bl true) H'
structure Z31 (K : PySem.W.Frag) (mg : Str → Option Value) (CO CB CL CN CS : Addr) : Prop extends ZL mg where
  ValueError : mg "ValueError" = none
  DoseError : mg "DoseError" = some (.ref CO)
  BadSetting : mg "BadSetting" = some (.ref CB)
  Locked : mg "Locked" = some (.ref CL)
  NotThere : mg "NotThere" = some (.ref CN)
  BadSave : mg "BadSave" = some (.ref CS)
  kDoseError : PySem.W.ktsIn K CO "BaseException" = true
  mB : ExcM K CB CO
  mS : ExcM K CS CO
  eB : ExcK K CB
  eS : ExcK K CS
  hS : PySem.W.hasDictIn K CS = true
  nS : NoAttr K CS "line"
  bB : PySem.W.kitOne K (.ref CB) (.ref CB) = some true
  bM : PySem.W.kitAny K (.ref CB) [.ref CL, .ref CN, .ref CS] = some false
  sS : PySem.W.kitOne K (.ref CS) (.ref CS) = some true
  sV : PySem.W.kitOne K (.ref CS) (.type "ValueError") = some true
  sB : PySem.W.kitOne K (.ref CS) (.ref CB) = some false
theorem call_list_ofK {X : Cx} {K : PySem.W.Frag} (h : X.K = K) : CallR X (.type "list") (fun xs H Q => ∃ p ys, xs = [V.ref p] ∧ (SqL K H p ys ∨ SqT K H p ys) ∧ ∀ l, H l = none → Q (.ref l) (upd H l (.lst ys))) := by
  subst h
  exact call_list_of
/-! ### lists of rules -/
noncomputable def RL (K : PySem.W.Frag) (te : TE) (σ : St) (H0 : Hp) (rules : List Rule) : Prop := ∀ (H : Hp) (Q : VK), Same H0 H → (∀ p rs H', Same H H' → H' p = some (.lst (rs.map V.ref)) → RT K H' rs rules → Q (.ref p) H') → te σ H Q
noncomputable abbrev tR (x y : Int) : TE := tTup (tCons (tC (.int x)) (tCons (tC (.int y)) tNil))
section
variable {σ : St} {H0 : Hp}
theorem RT.nil0 {H : Hp} : RT K H [] [] := ⟨rfl, fun i r e => by simp at e⟩
theorem RT.one0 {H : Hp} {r : Addr} {q : Rule} (h : SqT K H r (r2 q)) : RT K H [r] [q] := ⟨rfl, fun i r' e => by
  match i, e with
  | 0, e => cases e; exact h⟩
theorem RT.two0 {H : Hp} {r r' : Addr} {q q' : Rule} (h : SqT K H r (r2 q)) (h' : SqT K H r' (r2 q')) : RT K H [r, r'] [q, q'] := ⟨rfl, fun i r'' e => by
  match i, e with
  | 0, e => cases e; exact h
  | 1, e => cases e; exact h'⟩
theorem RL.nil : RL K (tLst tNil) σ H0 [] := fun H Q s q => ⟨Nat.zero_le _, fun p np => q p [] _ (Same.new np _) upd_same RT.nil0⟩
theorem RL.one {x y : Int} : RL K (tLst (tCons (tR x y) tNil)) σ H0 [(x, y)] := fun H Q s q => ⟨by show 2 ≤ _; rw [sizeLine_eq]; decide, fun r nr => ⟨by show 1 ≤ _; rw [sizeLine_eq]; decide, fun p np => q p [r] _ ((Same.new nr _).trans (Same.new np _)) upd_same (RT.one0 (SqT.of (at_new np upd_same)))⟩⟩
theorem RL.two {x y x' y' : Int} : RL K (tLst (tCons (tR x y) (tCons (tR x' y') tNil))) σ H0 [(x, y), (x', y')] := fun H Q s q => ⟨by show 2 ≤ _; rw [sizeLine_eq]; decide, fun r nr => ⟨by show 2 ≤ _; rw [sizeLine_eq]; decide, fun r' nr' => ⟨by show 2 ≤ _; rw [sizeLine_eq]; decide, fun p np =>
  q p [r, r'] _ (((Same.new nr _).trans (Same.new nr' _)).trans (Same.new np _)) upd_same (RT.two0 (SqT.of (at_new np (at_new nr' upd_same))) (SqT.of (at_new np upd_same)))⟩⟩⟩
theorem RL.ix5 {E0 E1 E2 E3 E4 ti : TE} {a b c d e r : List Rule} {n : Int} (h0 : RL K E0 σ H0 a) (h1 : RL K E1 σ H0 b) (h2 : RL K E2 σ H0 c) (h3 : RL K E3 σ H0 d) (h4 : RL K E4 σ H0 e) (hi : ∀ H Q, Same H0 H → Q (.int n) H → ti σ H Q)
    (hd : n = 0 ∧ r = a ∨ n = 1 ∧ r = b ∨ n = 2 ∧ r = c ∨ n = 3 ∧ r = d ∨ n = 4 ∧ r = e) : RL K (tOp (rIxL K) (tLst (tCons E0 (tCons E1 (tCons E2 (tCons E3 (tCons E4 tNil)))))) ti) σ H0 r := fun H Q s q =>
  h0 H _ s fun p0 r0 H1 s1 e0 t0 => h1 H1 _ (s.trans s1) fun p1 r1 H2 s2 e1 t1 => h2 H2 _ ((s.trans s1).trans s2) fun p2 r2 H3 s3 e2 t2 => h3 H3 _ (((s.trans s1).trans s2).trans s3) fun p3 r3 H4 s4 e3 t3 => h4 H4 _ ((((s.trans s1).trans s2).trans s3).trans s4) fun p4 r4 H5 s5 e4 t4 =>
  ⟨by show 5 ≤ _; rw [sizeLine_eq]; decide, fun p np => by
    have s6 := Same.new np (.lst [V.ref p0, V.ref p1, V.ref p2, V.ref p3, V.ref p4])
    have sA := ((((s1.trans s2).trans s3).trans s4).trans s5).trans s6
    refine hi _ _ (s.trans sA) ?_
    rcases hd with ⟨rfl, rfl⟩ | ⟨rfl, rfl⟩ | ⟨rfl, rfl⟩ | ⟨rfl, rfl⟩ | ⟨rfl, rfl⟩
    · have k := (((s2.trans s3).trans s4).trans s5).trans s6
      exact ⟨p, _, 0, .ref p0, rfl, rfl, SqL.of upd_same, rfl, q p0 r0 _ sA (k _ _ e0) (t0.same k)⟩
    · have k := ((s3.trans s4).trans s5).trans s6
      exact ⟨p, _, 1, .ref p1, rfl, rfl, SqL.of upd_same, rfl, q p1 r1 _ sA (k _ _ e1) (t1.same k)⟩
    · have k := (s4.trans s5).trans s6
      exact ⟨p, _, 2, .ref p2, rfl, rfl, SqL.of upd_same, rfl, q p2 r2 _ sA (k _ _ e2) (t2.same k)⟩
    · have k := s5.trans s6
      exact ⟨p, _, 3, .ref p3, rfl, rfl, SqL.of upd_same, rfl, q p3 r3 _ sA (k _ _ e3) (t3.same k)⟩
    · exact ⟨p, _, 4, .ref p4, rfl, rfl, SqL.of upd_same, rfl, q p4 r4 _ sA (s6 _ _ e4) (t4.same s6)⟩⟩
theorem asg_RL {te : TE} {u : TS} {D : Ends} {k : Nat} {rules : List Rule} (h : RL K te σ H0 rules) (q : ∀ p rs H', Same H0 H' → H' p = some (.lst (rs.map V.ref)) → RT K H' rs rules → u D (σ.set k (some (.ref p))) H') : tSeq (tAsg te (gName k)) u D σ H0 := h H0 _ Same.refl' q
end
inductive Hid (A : Prop) : Prop where
  | mk : A → Hid A
  | also : A → Hid A
theorem Hid.out {A : Prop} (h : Hid A) : A := by cases h <;> assumption
theorem okVs_nil : ∀ {xs : List V}, okVs xs [] = true
  | [] => rfl
  | _ :: _ => rfl
theorem due_nn (lines : List Str) (L : Int) : 0 ≤ due lines L := by
  unfold due
  split
  · omega
  · split <;> omega
theorem self_str : ∀ (ts : List Str), okVs (ts.map V.str) (ts.map V.str) = true ∧ eqVs (ts.map V.str) (ts.map V.str) = true
  | [] => ⟨rfl, rfl⟩
  | t :: ts => by
    obtain ⟨h1, h2⟩ := self_str ts
    constructor
    · show (okP (.str t) (.str t) && _) = true
      rw [h1, Bool.and_true]
      rfl
    · show (resP (.str t) (.str t) && _) = true
      rw [h2, Bool.and_true]
      show decide _ = true
      exact decide_eq_true rfl
noncomputable def cf31 (rules : List Rule) : Cf := ⟨2, [(0, 1, 1)], rules, 3, 4, 5⟩
theorem day2 : DayM.Ok 2 [(0, 1, 1)] := by
  refine ⟨by decide, by decide, by simp, rfl, fun i hi => by simp at hi, fun i hi => ?_⟩
  have e : i = 0 := by simp at hi; exact hi
  subst e
  decide
theorem good_of {rules : List Rule} (h : rules = [(3, 5)] ∨ rules = [(1, 2), (4, 0)] ∨ rules = [(5, 9)]) : (cf31 rules).Ok := by
  refine ⟨day2, ?_, (by show (0 : Int) ≤ 3 ∧ (3 : Int) ≤ 1000000; decide), (by show (0 : Int) ≤ 4 ∧ (4 : Int) ≤ 1000000; decide), (by show (0 : Int) ≤ 5 ∧ (5 : Int) ≤ 1000000; decide)⟩
  rcases h with rfl | rfl | rfl
  · exact ⟨by decide, fun i hi => by
      have e : i = 0 := by have hi : i < 1 := hi; omega
      subst e; unfold RGood1; decide⟩
  · exact ⟨by decide, fun i hi => by
      have hi : i < 2 := hi
      rcases (show i = 0 ∨ i = 1 by omega) with rfl | rfl <;> (unfold RGood1; decide)⟩
  · exact ⟨by decide, fun i hi => by
      have e : i = 0 := by have hi : i < 1 := hi; omega
      subst e; unfold RGood1; decide⟩
theorem bad_zero : ¬ (cf31 [(0, 5)]).Ok := fun o => by
  have := o.r.al 0 (by decide)
  unfold RGood1 at this
  revert this
  decide
theorem bad_nil : ¬ (cf31 []).Ok := fun o => by
  have := o.r.ln.1
  revert this
  decide
theorem sclaw : FnScope ["_law_script", "_law_lines", "_law_k", "_law_rules", "_law_kept", "_law_pump", "e", "_law_due_here", "_law_good"] ["_law_script"] (defScope s_law) := ⟨rfl, rfl, rfl, by decide +kernel, rfl, by decide +kernel, by decide +kernel⟩
theorem ok_law31 {f f1 f2 f3 f4 f5 f6 f7 f8 : Addr} {fd fd1 fd2 fd3 fd4 fd5 fd6 fd7 fd8 : FuncData} (F : Fun K "law" "law" s_law f fd) (Z : Z31 K mg CO CB CL CN CS)
    (B_Lmix : Fn P w K mg base CX0 2 "_law_mix" ["_law_script", "_law_k"] (spMix K) f1 fd1) (B_Ldrawn : Fn P w K mg base CX0 3 "_law_drawn" ["_law_script"] (spDrawn K) f2 fd2) (B_Lchanged : Fn P w K mg base CX0 3 "_law_changed" ["_law_script", "_law_k", "_law_lines"] (spChg K) f3 fd3)
    (B_loaded : Fn P w K mg base (CXE P w) 5 "loaded" ["lines", "day", "rules", "lock", "dose", "hold"] (spLoadA K CP CD CB CS) f4 fd4) (B_Day : Mc P w K mg base (CXE P w) 4 "Day" CD ["self", "ticks", "parts"] (spDayI K CD CB) f5 fd5) (B_Ldue : Fn P w K mg base CX0 2 "_law_due" ["_law_lines", "_law_longest"] spDueL f6 fd6)
    (B_Lwhole : Fn P w K mg base CX0 1 "_law_whole" ["_law_found"] spWhole f7 fd7) (B_saved : Fn P w K mg base CX0 2 "saved" ["pump"] (spSaved K CP CD) f8 fd8) : FnOk P w K mg base CX0 6 f fd ["_law_script"] (spLaw K) := by
  refine F.ok sclaw (fun vs H Q E h => ?_) (fun cdv A outer s₀ H vs Q E hr h => ?_)
  · obtain ⟨a, ns, rfl, _⟩ := h
    rfl
  obtain ⟨a, ns, rfl, hS, h63, q⟩ := h
  have hu0 := hr.units0
  refine ⟨_, (@pss_cons _ _ _ _ _ (@ps_set _ _ (1) _ _ _ _ sclaw.nd rfl (Or.inl rfl) (@pe_call _ _ _ _ _ _ _ _ _ _ _ _ _ _ _ _ B_Ldrawn.ok (Room.mono hr (by decide)) rfl B_Ldrawn.m B_Ldrawn.kp B_Ldrawn.b .nil pass0 (@pa_cons _ _ _ _ _ (@pv _ 0 _ _ rfl (by walk_at "o") (by decide) (by decide)) (@pa_nil _) (by walk_at "g")) (by decide) (by walk_at "g") rfl) (by walk_at "g") (by walk_at "f")) (@pss_cons _ _ _ _ _ (@ps_for _ _ _ _ _ _ _ _ PassesOwn.never rfl (@pi_range1 _ _ _ _ _ _ rfl Z.range (@pa_cons _ _ _ _ _ (@pe_op _ _ _ _ _ _ _ _ op_mod (@pe_call _ _ _ _ _ _ _ _ _ _ _ _ _ _ _ _ B_Lmix.ok (Room.mono hr (by decide)) rfl B_Lmix.m B_Lmix.kp B_Lmix.b .nil pass0 (@pa_cons _ _ _ _ _ (@pv _ 0 _ _ rfl (by walk_at "o") (by decide) (by decide)) (@pa_cons _ _ _ _ _ (@pe_int _ _ _ _) (@pa_nil _) (by walk_at "g")) (by walk_at "g")) (by decide) (by walk_at "g") rfl) (@pe_int _ _ _ _)) (@pa_nil _) (by walk_at "g")) (by walk_at "g")) (@pg_name _ _ (2) _ sclaw.nd rfl (Or.inl rfl) (by walk_at "f")) (@pss_one _ _ _ (@ps_if _ _ _ _ _ _ _ _ (@pt_truth _ _ _ (@pv _ 1 _ _ rfl (by walk_at "o") (by decide) (by decide)) (fun _ => rfl)) (@pss_one _ _ _ (@ps_set _ _ (1) _ _ _ _ sclaw.nd rfl (Or.inl rfl) (@pe_call _ _ _ _ _ _ _ _ _ _ _ _ _ _ _ _ B_Lchanged.ok (Room.mono hr (by decide)) rfl B_Lchanged.m B_Lchanged.kp B_Lchanged.b .nil pass0 (@pa_cons _ _ _ _ _ (@pv _ 0 _ _ rfl (by walk_at "o") (by decide) (by decide)) (@pa_cons _ _ _ _ _ (@pe_op _ _ _ _ _ _ _ _ op_add (@pe_int _ _ _ _) (@pv _ 2 _ _ rfl (by walk_at "o") (by decide) (by decide))) (@pa_cons _ _ _ _ _ (@pv _ 1 _ _ rfl (by walk_at "o") (by decide) (by decide)) (@pa_nil _) (by walk_at "g")) (by walk_at "g")) (by walk_at "g")) (by decide) (by walk_at "g") rfl) (by walk_at "g") (by walk_at "f"))) (@pss_nil _))) (by walk_at "g")) (@pss_cons _ _ _ _ _ (@ps_set _ _ (3) _ _ _ _ sclaw.nd rfl (Or.inl rfl) (@pe_ix _ _ _ _ _ _ _ ix_list (@pe_lst _ _ _ _ (@pa_cons _ _ _ _ _ (@pe_lst _ _ _ _ (@pa_cons _ _ _ _ _ (@pe_tup _ _ _ _ _ (@pa_cons _ _ _ _ _ (@pe_int _ _ _ _) (@pa_cons _ _ _ _ _ (@pe_int _ _ _ _) (@pa_nil _) (by walk_at "g")) (by walk_at "g"))) (@pa_nil _) (by walk_at "g"))) (@pa_cons _ _ _ _ _ (@pe_lst _ _ _ _ (@pa_cons _ _ _ _ _ (@pe_tup _ _ _ _ _ (@pa_cons _ _ _ _ _ (@pe_int _ _ _ _) (@pa_cons _ _ _ _ _ (@pe_int _ _ _ _) (@pa_nil _) (by walk_at "g")) (by walk_at "g"))) (@pa_cons _ _ _ _ _ (@pe_tup _ _ _ _ _ (@pa_cons _ _ _ _ _ (@pe_int _ _ _ _) (@pa_cons _ _ _ _ _ (@pe_int _ _ _ _) (@pa_nil _) (by walk_at "g")) (by walk_at "g"))) (@pa_nil _) (by walk_at "g")) (by walk_at "g"))) (@pa_cons _ _ _ _ _ (@pe_lst _ _ _ _ (@pa_cons _ _ _ _ _ (@pe_tup _ _ _ _ _ (@pa_cons _ _ _ _ _ (@pe_int _ _ _ _) (@pa_cons _ _ _ _ _ (@pe_int _ _ _ _) (@pa_nil _) (by walk_at "g")) (by walk_at "g"))) (@pa_nil _) (by walk_at "g"))) (@pa_cons _ _ _ _ _ (@pe_lst _ _ _ _ (@pa_cons _ _ _ _ _ (@pe_tup _ _ _ _ _ (@pa_cons _ _ _ _ _ (@pe_int _ _ _ _) (@pa_cons _ _ _ _ _ (@pe_int _ _ _ _) (@pa_nil _) (by walk_at "g")) (by walk_at "g"))) (@pa_nil _) (by walk_at "g"))) (@pa_cons _ _ _ _ _ (@pe_lst _ _ _ _ (@pa_nil _)) (@pa_nil _) (by walk_at "g")) (by walk_at "g")) (by walk_at "g")) (by walk_at "g")) (by walk_at "g"))) (@pe_op _ _ _ _ _ _ _ _ op_mod (@pe_op _ _ _ _ _ _ _ _ op_mod (@pe_call _ _ _ _ _ _ _ _ _ _ _ _ _ _ _ _ B_Lmix.ok (Room.mono hr (by decide)) rfl B_Lmix.m B_Lmix.kp B_Lmix.b .nil pass0 (@pa_cons _ _ _ _ _ (@pv _ 0 _ _ rfl (by walk_at "o") (by decide) (by decide)) (@pa_cons _ _ _ _ _ (@pe_int _ _ _ _) (@pa_nil _) (by walk_at "g")) (by walk_at "g")) (by decide) (by walk_at "g") rfl) (@pe_int _ _ _ _)) (@pe_int _ _ _ _)) (fun _ _ => rfl)) (by walk_at "g") (by walk_at "f")) (@pss_cons _ _ _ _ _ (@ps_set _ _ (4) _ _ _ _ sclaw.nd rfl (Or.inl rfl) (@pe_non _ _ _) (by walk_at "g") (by walk_at "f")) (@pss_cons _ _ _ _ _ (@ps_set _ _ (5) _ _ _ _ sclaw.nd rfl (Or.inl rfl) (@pe_non _ _ _) (by walk_at "g") (by walk_at "f")) (@pss_cons _ _ _ _ _ (@ps_cut _ _ _ (@ps_try _ _ _ _ _ _ _ _ _ (6) _ _ _ (Own.wish own_cxOf _) (fun pn W E σ₀ hx => (@pss_one _ _ _ (@ps_set _ _ (5) _ _ _ _ sclaw.nd rfl (Or.inl rfl) (@pe_callT _ _ _ _ _ _ _ _ _ _ _ _ _ _ _ _ _ B_loaded.ok (Room.mono hr (by decide)) rfl B_loaded.m B_loaded.kp B_loaded.b .nil hx (@pa_cons _ _ _ _ _ (@pe_callTy _ _ _ _ _ _ _ _ _ (call_list_ofK (K := K) rfl) rfl Z.list (by decide +kernel) (@pa_cons _ _ _ _ _ (@pv _ 1 _ _ rfl (by walk_at "o") (by decide) (by decide)) (@pa_nil _) (by walk_at "g")) (by decide) (by decide) (by walk_at "g") rfl) (@pa_cons _ _ _ _ _ (@pe_makeT _ _ _ _ _ _ _ _ _ _ _ _ _ _ _ _ _ _ B_Day.mkk B_Day.ok (Room.mono hr (by decide)) rfl B_Day.m B_Day.b .nil hx (@pa_cons _ _ _ _ _ (@pe_int _ _ _ _) (@pa_cons _ _ _ _ _ (@pe_lst _ _ _ _ (@pa_cons _ _ _ _ _ (@pe_tup _ _ _ _ _ (@pa_cons _ _ _ _ _ (@pe_int _ _ _ _) (@pa_cons _ _ _ _ _ (@pe_int _ _ _ _) (@pa_cons _ _ _ _ _ (@pe_int _ _ _ _) (@pa_nil _) (by walk_at "g")) (by walk_at "g")) (by walk_at "g"))) (@pa_nil _) (by walk_at "g"))) (@pa_nil _) (by walk_at "g")) (by walk_at "g")) (by decide) (by walk_at "g") rfl) (@pa_cons _ _ _ _ _ (@pv _ 3 _ _ rfl (by walk_at "o") (by decide) (by decide)) (@pa_cons _ _ _ _ _ (@pe_int _ _ _ _) (@pa_cons _ _ _ _ _ (@pe_int _ _ _ _) (@pa_cons _ _ _ _ _ (@pe_int _ _ _ _) (@pa_nil _) (by walk_at "g")) (by walk_at "g")) (by walk_at "g")) (by walk_at "g")) (by walk_at "g")) (by walk_at "g")) (by decide) (by walk_at "g") rfl) (by walk_at "g") (by walk_at "f")))) Z.kDoseError rfl Z.DoseError sclaw.nd rfl rfl (fun A' => (@pss_one _ _ _ (@ps_set _ _ (4) _ _ _ _ sclaw.nd rfl (Or.inl rfl) (@pv _ 6 _ _ rfl (by walk_at "o") (by decide) (by decide)) (by walk_at "g") (by walk_at "f")))) (by decide))) (@pss_cons _ _ _ _ _ (@ps_if _ _ _ _ _ _ _ _ (PW.pt (@pw_or _ _ _ _ _ _ _ (@pt_cmpR _ _ _ _ _ _ _ _ (op_eq_list hu0) (@pv _ 3 _ _ rfl (by walk_at "o") (by decide) (by decide)) (@pe_lst _ _ _ _ (@pa_nil _)) (nomark _)) (@pw_or1 _ _ _ _ (@pt_cmpR _ _ _ _ _ _ _ _ op_eq (@pe_ix _ _ _ _ _ _ _ ix_tup (@pe_ix _ _ _ _ _ _ _ ix_list (@pv _ 3 _ _ rfl (by walk_at "o") (by decide) (by decide)) (@pe_int _ _ _ _) (fun _ _ => rfl)) (@pe_int _ _ _ _) (fun _ _ => rfl)) (@pe_int _ _ _ _) (nomark _))))) (@pss_one _ _ _ (@ps_ret _ _ _ _ (@pe_and _ _ _ _ _ _ _ (@pe_callB _ _ _ _ _ _ _ _ _ call_isX rfl Z.isinstance (by decide +kernel) (@pa_cons _ _ _ _ _ (@pv _ 4 _ _ rfl (by walk_at "o") (by decide) (by decide)) (@pa_cons _ _ _ _ _ (@pe_glob _ _ (.ref _) _ _ rfl Z.BadSetting rfl (by decide)) (@pa_nil _) (by walk_at "g")) (by walk_at "g")) (by decide) (by decide) (by walk_at "g") rfl) (@pe_one _ _ _ _ _ (@pe_not _ _ _ _ (@pe_callB _ _ _ _ _ _ _ _ _ call_isEM rfl Z.isinstance (by decide +kernel) (@pa_cons _ _ _ _ _ (@pv _ 4 _ _ rfl (by walk_at "o") (by decide) (by decide)) (@pa_cons _ _ _ _ _ (@pe_tup _ _ _ _ _ (@pa_cons _ _ _ _ _ (@pe_glob _ _ (.ref _) _ _ rfl Z.Locked rfl (by decide)) (@pa_cons _ _ _ _ _ (@pe_glob _ _ (.ref _) _ _ rfl Z.NotThere rfl (by decide)) (@pa_cons _ _ _ _ _ (@pe_glob _ _ (.ref _) _ _ rfl Z.BadSave rfl (by decide)) (@pa_nil _) (by walk_at "g")) (by walk_at "g")) (by walk_at "g"))) (@pa_nil _) (by walk_at "g")) (by walk_at "g")) (by decide) (by decide) (by walk_at "g") rfl)))))) (@pss_nil _)) (@pss_cons _ _ _ _ _ (@ps_set _ _ (7) _ _ _ _ sclaw.nd rfl (Or.inl rfl) (@pe_call _ _ _ _ _ _ _ _ _ _ _ _ _ _ _ _ B_Ldue.ok (Room.mono hr (by decide)) rfl B_Ldue.m B_Ldue.kp B_Ldue.b .nil pass0 (@pa_cons _ _ _ _ _ (@pv _ 1 _ _ rfl (by walk_at "o") (by decide) (by decide)) (@pa_cons _ _ _ _ _ (@pe_callB _ _ _ _ _ _ _ _ _ (call_maxL rfl) rfl Z.max (by decide +kernel) (@pa_cons _ _ _ _ _ (@pe_comp _ _ _ _ _ _ (defScope s_law) _ (["_law_script", "_law_lines", "_law_k", "_law_rules", "_law_kept", "_law_pump", "e", "_law_due_here", "_law_good"]) (["_law_script", "_law_lines", "_law_k", "_law_rules", "_law_kept", "_law_pump", "e", "_law_due_here", "_law_good", "_law_rule"]) (["_law_rule"]) _ _ _ _ _ rfl rfl rfl (.of (by decide +kernel)) (@pi_list _ _ _ _ (@pv _ 3 _ _ rfl (by walk_at "o") (by decide) (by decide))) takes_name (fun _ _ _ _ _ => @pg_name _ _ (9) _ (show List.Nodup (["_law_script", "_law_lines", "_law_k", "_law_rules", "_law_kept", "_law_pump", "e", "_law_due_here", "_law_good", "_law_rule"] : List Str) by decide +kernel) rfl (Or.inl rfl) (by walk_at "f")) (fun _ _ _ _ _ => @pif_nil _) (fun _ _ _ _ _ => (@pe_ix _ _ _ _ _ _ _ (ix_tupK (K := K) rfl) (@pv _ 9 _ _ rfl (by walk_at "o") (by decide) (by decide)) (@pe_int _ _ _ _) (fun _ _ => rfl))) (by walk_at "g")) (@pa_nil _) (by walk_at "g")) (by decide) (by decide) (by walk_at "g") rfl) (@pa_nil _) (by walk_at "g")) (by walk_at "g")) (by decide) (by walk_at "g") rfl) (by walk_at "g") (by walk_at "f")) (@pss_cons _ _ _ _ _ (@ps_if _ _ _ _ _ _ _ _ (@pt_cmpR _ _ _ _ _ _ _ _ op_gt (@pv _ 7 _ _ rfl (by walk_at "o") (by decide) (by decide)) (@pe_int _ _ _ _) (nomark _)) (@pss_cons _ _ _ _ _ (@ps_set _ _ (8) _ _ _ _ sclaw.nd rfl (Or.inl rfl) (@pe_and _ _ _ _ _ _ _ (@pe_callB _ _ _ _ _ _ _ _ _ call_isX rfl Z.isinstance (by decide +kernel) (@pa_cons _ _ _ _ _ (@pv _ 4 _ _ rfl (by walk_at "o") (by decide) (by decide)) (@pa_cons _ _ _ _ _ (@pe_glob _ _ (.ref _) _ _ rfl Z.BadSave rfl (by decide)) (@pa_nil _) (by walk_at "g")) (by walk_at "g")) (by decide) (by decide) (by walk_at "g") rfl) (@pe_and _ _ _ _ _ _ _ (@pe_callB _ _ _ _ _ _ _ _ _ call_isXB rfl Z.isinstance (by decide +kernel) (@pa_cons _ _ _ _ _ (@pv _ 4 _ _ rfl (by walk_at "o") (by decide) (by decide)) (@pa_cons _ _ _ _ _ (@pe_bltn _ _ (.ty "ValueError") _ _ rfl Z.ValueError (by decide +kernel) rfl (by decide) (by decide)) (@pa_nil _) (by walk_at "g")) (by walk_at "g")) (by decide) (by decide) (by walk_at "g") rfl) (@pe_one _ _ _ _ _ (@pe_not _ _ _ _ (@pe_callB _ _ _ _ _ _ _ _ _ call_isX rfl Z.isinstance (by decide +kernel) (@pa_cons _ _ _ _ _ (@pv _ 4 _ _ rfl (by walk_at "o") (by decide) (by decide)) (@pa_cons _ _ _ _ _ (@pe_glob _ _ (.ref _) _ _ rfl Z.BadSetting rfl (by decide)) (@pa_nil _) (by walk_at "g")) (by walk_at "g")) (by decide) (by decide) (by walk_at "g") rfl))))) (by walk_at "g") (by walk_at "f")) (@pss_one _ _ _ (@ps_ret _ _ _ _ (@pe_and _ _ _ _ _ _ _ (@pv _ 8 _ _ rfl (by walk_at "o") (by decide) (by decide)) (@pe_and _ _ _ _ _ _ _ (@pe_call _ _ _ _ _ _ _ _ _ _ _ _ _ _ _ _ B_Lwhole.ok (Room.mono hr (by decide)) rfl B_Lwhole.m B_Lwhole.kp B_Lwhole.b .nil pass0 (@pa_cons _ _ _ _ _ (@pe_fldX _ _ _ _ _ (@pv _ 4 _ _ rfl (by walk_at "o") (by decide) (by decide)) rfl) (@pa_nil _) (by walk_at "g")) (by decide) (by walk_at "g") rfl) (@pe_one _ _ _ _ _ (@pe_cmpR _ _ _ _ _ _ _ _ op_eq (@pe_fldX _ _ _ _ _ (@pv _ 4 _ _ rfl (by walk_at "o") (by decide) (by decide)) rfl) (@pv _ 7 _ _ rfl (by walk_at "o") (by decide) (by decide)) (nomark _)))))))) (@pss_nil _)) (@pss_one _ _ _ (@ps_ret _ _ _ _ (@pe_and _ _ _ _ _ _ _ (@pe_cmpR _ _ _ _ _ _ _ _ op_isN (@pv _ 4 _ _ rfl (by walk_at "o") (by decide) (by decide)) (@pe_non _ _ _) (nomark _)) (@pe_one _ _ _ _ _ (@pe_cmpR _ _ _ _ _ _ _ _ (op_eq_list hu0) (@pe_call _ _ _ _ _ _ _ _ _ _ _ _ _ _ _ _ B_saved.ok (Room.mono hr (by decide)) rfl B_saved.m B_saved.kp B_saved.b .nil pass0 (@pa_cons _ _ _ _ _ (@pv _ 5 _ _ rfl (by walk_at "o") (by decide) (by decide)) (@pa_nil _) (by walk_at "g")) (by decide) (by walk_at "g") rfl) (@pv _ 1 _ _ rfl (by walk_at "o") (by decide) (by decide)) (nomark _))))))))))))))), ?_⟩
  dsimp only [cxOf, Cx.nox]
  walk_at "rd"
  intro l0 lines0 H1 s1 nl0 hz0 hn0 hl0
  have hS1 := s1.seq hS
  walk_at "rd"
  have hm3 : 0 ≤ mixv ns 30 % 3 ∧ mixv ns 30 % 3 < 3 := by omega
  generalize mixv ns 30 % 3 = mm at hm3 ⊢
  refine for_range (fun i σ H3 => ∃ (v2 : Option V) (l : Addr) (lines : List Str), σ = [some (.ref a), some (.ref l), v2, none, none, none, none, none, none] ∧ Same H H3 ∧ H3 l = some (.lst (lines.map V.str)) ∧ lines.length ≤ 9 + i ∧ ∀ z ∈ lines, z.length ≤ 100 + 20 * i) ?_ ?_ ?_
  · exact ⟨none, l0, lines0, rfl, s1, hl0, by omega, fun z h => by have := hz0 z h; omega⟩
  · rintro i σ H3 hi ⟨v2, l, lines, rfl, s3, hl, hln, hz⟩
    have hi3 : i < 3 := by omega
    have hS3 := s3.seq hS
    walk_at "rd"
    by_cases hne : lines = []
    · subst hne
      refine ⟨_, .inl ⟨_, SqL.of hl, rfl⟩, ?_⟩
      walk_at "rd"
      exact ⟨_, l, [], rfl, s3, hl, by simp, fun z h => by simp at h⟩
    · have hb : (!(lines.map V.str).isEmpty) = true := by cases lines with
        | nil => exact absurd rfl hne
        | cons x r => rfl
      refine ⟨_, .inl ⟨_, SqL.of hl, rfl⟩, ?_⟩
      rw [hb]
      refine Eq.mpr (if_pos rfl) ?_
      iterate 4 walk_at "r1"
      refine ⟨a, l, ns, 31 + (0 + (i : Int)), lines, 100 + 20 * i, rfl, hS3, h63, by omega, hl, hne, by omega, hz, by omega, fun l' lines' H4 s4 hn' hz' hl' => ?_⟩
      exact ⟨_, l', lines', rfl, s3.trans s4, hl', by omega, fun z h => by have := hz' z h; omega⟩
  rintro σ H3 ⟨v2, l, lines, rfl, s3, hl, hln, hz⟩
  have hz9 : ∀ z ∈ lines, z.length ≤ 900 := fun z h => by have := hz z h; omega
  have hn9 : lines.length ≤ 1000 := by omega
  clear hz hln hS1 hl0 hn0 hz0 nl0 s1
  have hS3 := s3.seq hS
  dsimp only
  have hm5 : 0 ≤ mixv ns 40 % 13 % 5 ∧ mixv ns 40 % 13 % 5 < 5 := by omega
  obtain ⟨x, hx⟩ : ∃ x, x = mixv ns 40 % 13 % 5 := ⟨_, rfl⟩
  rw [← hx] at hm5
  obtain ⟨rules, hd⟩ : ∃ rules : List Rule, x = 0 ∧ rules = [(3, 5)] ∨ x = 1 ∧ rules = [(1, 2), (4, 0)] ∨ x = 2 ∧ rules = [(5, 9)] ∨ x = 3 ∧ rules = [(0, 5)] ∨ x = 4 ∧ rules = [] := by
    rcases (show x = 0 ∨ x = 1 ∨ x = 2 ∨ x = 3 ∨ x = 4 by omega) with h | h | h | h | h
    · exact ⟨_, .inl ⟨h, rfl⟩⟩
    · exact ⟨_, .inr (.inl ⟨h, rfl⟩)⟩
    · exact ⟨_, .inr (.inr (.inl ⟨h, rfl⟩))⟩
    · exact ⟨_, .inr (.inr (.inr (.inl ⟨h, rfl⟩)))⟩
    · exact ⟨_, .inr (.inr (.inr (.inr ⟨h, rfl⟩)))⟩
  refine asg_RL (RL.ix5 RL.one RL.two RL.one RL.one RL.nil (fun Hx Qx sx qx => ?_) hd) fun rl rs H4 s4 hrl hT => ?_
  · have hSx := sx.seq hS3
    have q2 : Qx (.int (mixv ns 40 % 13 % 5)) Hx := by rw [← hx]; exact qx
    walk_at "rd"
    exact q2
  have hr5 : (rules = [(3, 5)] ∨ rules = [(1, 2), (4, 0)] ∨ rules = [(5, 9)]) ∨ rules = [(0, 5)] ∨ rules = [] := by
    rcases hd with ⟨_, h⟩ | ⟨_, h⟩ | ⟨_, h⟩ | ⟨_, h⟩ | ⟨_, h⟩
    · exact .inl (.inl h)
    · exact .inl (.inr (.inl h))
    · exact .inl (.inr (.inr h))
    · exact .inr (.inl h)
    · exact .inr (.inr h)
  clear hd hx hm5 hm3 hS3
  have hl4 := s4 _ _ hl
  have s34 := s3.trans s4
  obtain ⟨D, hD⟩ : ∃ D, D = due lines (Sd.longest rules) := ⟨_, rfl⟩
  refine ⟨fun σ' H' => Hid (Same H4 H' ∧ ((¬ (cf31 rules).Ok ∧ ∃ ea, σ' = [some (.ref a), some (.ref l), v2, some (.ref rl), some (.ref ea), some .non, none, none, none] ∧ H' ea = some (exO ea CB none)) ∨
    ((cf31 rules).Ok ∧ D ≠ 0 ∧ ∃ ea d, σ' = [some (.ref a), some (.ref l), v2, some (.ref rl), some (.ref ea), some .non, none, none, none] ∧ H' ea = some (exO ea CS (some d)) ∧ H' d = some (.xd [("line", .int D)])) ∨
    ((cf31 rules).Ok ∧ D = 0 ∧ ∃ p dx dy rl2 sn s, σ' = [some (.ref a), some (.ref l), v2, some (.ref rl), some .non, some (.ref p), none, none, none] ∧ Small s ∧ lines = lines9 s ∧ PumpAt K CP CD H' p dx dy rl2 sn rs (cf31 rules) s))), ?_, ?_⟩
  · refine ⟨fun cls dd H' => Same H4 H' ∧ ((cls = .ref CB ∧ dd = none ∧ ¬ (cf31 rules).Ok) ∨ (cls = .ref CS ∧ (cf31 rules).Ok ∧ D ≠ 0 ∧ ∃ d, dd = some d ∧ H' d = some (.xd [("line", .int D)]))), ?_, ?_⟩
    · walk_at "rd"
      intro lc nlc
      walk_at "rd"
      intro pt npt
      walk_at "rd"
      intro pl npl
      have sA := ((Same.new nlc (.lst (lines.map V.str))).trans (Same.new npt (.tup [.int 0, .int 1, .int 1]))).trans (Same.new npl (.lst [V.ref pt]))
      have hlc := at_new (o := .lst [V.ref pt]) npl (at_new (o := .tup [.int 0, .int 1, .int 1]) npt (upd_same (H := H4) (a := lc) (o := .lst (lines.map V.str))))
      have hpt : SqT K (upd (upd (upd H4 lc (.lst (lines.map V.str))) pt (.tup [.int 0, .int 1, .int 1])) pl (.lst [V.ref pt])) pt [.int 0, .int 1, .int 1] := SqT.of (at_new npl upd_same)
      have hpl : (upd (upd (upd H4 lc (.lst (lines.map V.str))) pt (.tup [.int 0, .int 1, .int 1])) pl (.lst [V.ref pt])) pl = some (.lst ([pt].map V.ref)) := upd_same
      generalize upd (upd (upd H4 lc (.lst (lines.map V.str))) pt (.tup [.int 0, .int 1, .int 1])) pl (.lst [V.ref pt]) = H5 at sA hlc hpt hpl ⊢
      walk_at "rd"
      intro x dx nx ndx nex
      have s6 : Same H5 (upd (upd H5 dx (.own x)) x (.ins CD dx [])) := fun c o ec => by
        rw [upd_ne (ne_of_none ec nx), upd_ne (ne_of_none ec ndx)]
        exact ec
      refine ⟨x, dx, 2, pl, [pt], [(0, 1, 1)], rfl, upd_same, s6 _ _ hpl, ⟨rfl, fun i r e => ?_⟩, by unfold Bd; decide, fun q hq => ?_, by decide, fun _ H7 kp DA => ⟨rfl, ?_⟩, fun no => absurd day2 no⟩
      · match i, e with
        | 0, e => cases e; exact s6.tup hpt
      · rw [List.mem_singleton.mp hq]
        unfold BdP Bd
        decide
      have s7 : Same H5 H7 := fun c o ec => kp c o (ne_of_none ec nx) (s6 c o ec)
      have hlc7 := s7 _ _ hlc
      have hrl7 := s7 _ _ (sA _ _ hrl)
      have hT7 := hT.same (sA.trans s7)
      have sB := sA.trans s7
      walk_at "rd"
      refine ⟨lc, x, rl, rs, cf31 rules, lines, rfl, hlc7, hz9, hn9, DA, hrl7, hT7, ?_, ?_, day2, (show Bd 3 by unfold Bd; decide), (show Bd 4 by unfold Bd; decide), (show Bd 5 by unfold Bd; decide), fun ok hd p dx rl2 sn s H8 s8 sm el PA => ?_, fun ok hd dd H8 s8 h8 => ?_, fun no H8 s8 => ?_⟩
      · intro r hr
        have hr : r ∈ rules := hr
        unfold Bd
        rcases hr5 with (h | h | h) | h | h
        · rw [h] at hr; simp at hr; rw [hr]; decide
        · rw [h] at hr
          simp at hr
          rcases hr with hr | hr <;> (rw [hr]; decide)
        · rw [h] at hr; simp at hr; rw [hr]; decide
        · rw [h] at hr; simp at hr; rw [hr]; decide
        · rw [h] at hr; simp at hr
      · rcases hr5 with (h | h | h) | h | h <;> (rw [h]; decide)
      · exact Hid.mk ⟨sB.trans s8, .inr (.inr ⟨ok, hD.trans hd, p, dx, x, rl2, sn, s, rfl, sm, el, PA⟩)⟩
      · exact ⟨sB.trans s8, .inr ⟨rfl, ok, by rw [hD]; exact hd, dd, rfl, by rw [hD]; exact h8⟩⟩
      · exact ⟨sB.trans s8, .inl ⟨rfl, rfl, no⟩⟩
    · rintro cls dd H5 ⟨s5, h5⟩
      rcases h5 with ⟨rfl, rfl, no⟩ | ⟨rfl, ok, hd0, d, rfl, hd⟩
      · refine ⟨CB, rfl, Z.mB, fun ea nea => ?_⟩
        refine ⟨_, rfl, Hid.mk ⟨s5.trans (Same.new nea _), .inl ⟨no, ea, rfl, upd_same⟩⟩⟩
      · refine ⟨CS, rfl, Z.mS, fun ea nea => ?_⟩
        refine ⟨_, rfl, Hid.mk ⟨s5.trans (Same.new nea _), .inr (.inl ⟨ok, hd0, ea, d, rfl, upd_same, at_new nea hd⟩)⟩⟩
  rintro σ' H5 h5
  obtain ⟨s5, h5⟩ := h5.out
  have hl5 := s5 _ _ hl4
  have hrl5 := s5 _ _ hrl
  have hT5 := hT.same s5
  have s35 := s34.trans s5
  rcases h5 with ⟨no, ea, rfl, hea⟩ | ⟨ok, hd0, ea, d, rfl, hea, hd⟩ | ⟨ok, hd0, p, dx, dy, rl2, sn, s, rfl, sm, el, PA⟩
  · dsimp only
    walk_at "rd"
    intro pe npe
    have e0 : (if (false : Bool) = true then !eqVs (rs.map V.ref) [] else eqVs (rs.map V.ref) []) = decide (rs = []) := by
      cases rs with
      | nil => rfl
      | cons r rs => rfl
    refine ⟨rl, pe, rs.map V.ref, [], rfl, rfl, SqL.of (at_new npe hrl5), SqL.of upd_same, okVs_nil, ?_⟩
    rw [e0]
    have hea6 := at_new (o := .lst []) npe hea
    have hrl6 := at_new (o := .lst []) npe hrl5
    have hT6 := hT5.same (Same.new npe (.lst []))
    have hlen := hT5.len
    rcases hr5 with h3 | h0 | h0
    · exact absurd (good_of h3) no
    · subst h0
      obtain ⟨r, rfl⟩ : ∃ r, rs = [r] := by
        match rs, hlen with
        | [r], _ => exact ⟨r, rfl⟩
      have hr := hT6.at_ 0 r rfl
      walk_at "rd"
      refine ⟨ea, CB, CB, none, true, rfl, hea6, True.intro, Z.eB, Z.bB, ?_⟩
      walk_at "rd"
      intro pm npm
      refine ⟨ea, CB, pm, [CL, CN, CS], false, rfl, at_new npm hea6, upd_same, Z.eB, Z.bM, ?_⟩
      walk_at "rd"
      exact q _
    · subst h0
      obtain rfl : rs = [] := List.length_eq_zero_iff.mp hlen
      walk_at "rd"
      refine ⟨ea, CB, CB, none, true, rfl, hea6, True.intro, Z.eB, Z.bB, ?_⟩
      walk_at "rd"
      intro pm npm
      refine ⟨ea, CB, pm, [CL, CN, CS], false, rfl, at_new npm hea6, upd_same, Z.eB, Z.bM, ?_⟩
      walk_at "rd"
      exact q _
  · obtain ⟨r0, rs', rfl, b0, hb0, hr0⟩ : ∃ r0 rs', rs = r0 :: rs' ∧ ∃ b0 : Rule, b0.1 ≠ 0 ∧ SqT K H5 r0 (r2 b0) := by
      have hlen := hT5.len
      rcases hr5 with (h | h | h) | h | h
      · subst h
        match rs, hlen with
        | [r], _ => exact ⟨r, [], rfl, (3, 5), by decide, hT5.at_ 0 r rfl⟩
      · subst h
        match rs, hlen with
        | [r, r'], _ => exact ⟨r, [r'], rfl, (1, 2), by decide, hT5.at_ 0 r rfl⟩
      · subst h
        match rs, hlen with
        | [r], _ => exact ⟨r, [], rfl, (5, 9), by decide, hT5.at_ 0 r rfl⟩
      · subst h; exact absurd ok bad_zero
      · subst h; exact absurd ok bad_nil
    have hlen := hT5.len
    have hrn : 1 ≤ rules.length ∧ rules.length ≤ 4 := ok.r.ln
    dsimp only
    walk_at "rd"
    intro pe npe
    have e0 : (if (false : Bool) = true then !eqVs ((r0 :: rs').map V.ref) [] else eqVs ((r0 :: rs').map V.ref) []) = false := rfl
    refine ⟨rl, pe, (r0 :: rs').map V.ref, [], rfl, rfl, SqL.of (at_new npe hrl5), SqL.of upd_same, okVs_nil, ?_⟩
    rw [e0]
    have s6 := Same.new npe (.lst [])
    have hrl6 := s6 _ _ hrl5
    have hT6 := hT5.same s6
    have hr6 := s6.tup hr0
    have hl6 := s6 _ _ hl5
    generalize upd H5 pe (.lst []) = H6 at s6 hrl6 hT6 hr6 hl6 ⊢
    have a0 : atI ((r0 :: rs').map V.ref) 0 = some (.ref r0) := by
      have h : atI ((r0 :: rs').map V.ref) ((0 : Nat) : Int) = some (.ref r0) := atI_nat rfl
      exact h
    have a1 : atI (r2 b0) 0 = some (.int b0.1) := rfl
    have ed : decide (V.int b0.1 = V.int 0) = false := decide_eq_false fun e => hb0 (V.int.inj e)
    walk_at "rd"
    intro acc n7
    refine comp_list (xs := (r0 :: rs').map V.ref) (fun i ys H7 => ys = ((rules.take i).map (·.1)).map V.int ∧ Same H6 H7 ∧ H7 acc = some (.lst ys)) ?_ ?_ ?_ ?_
    · exact ⟨rfl, Same.new n7 _, upd_same⟩
    · rintro i ys H7 _ ⟨_, s7, _⟩
      exact SqL.of (s7 _ _ hrl6)
    · rintro i x ys H7 hi hx ⟨rfl, s7, hacc⟩
      obtain ⟨r, rfl, er, hlt⟩ := getRef hx
      have hTr := hT6.at_ i r er
      walk_at "rd"
      refine ⟨small1000 (by rw [List.length_map, List.length_map, List.length_take]; omega), cstep hi ⟨?_, s7.mut n7, upd_same⟩⟩
      rw [List.take_succ, List.map_append, List.map_append, (getDr (ps := rules) (i := i) (by rw [← hlen]; exact hlt)).2]
      rfl
    rintro ys H7 ⟨rfl, s7, hacc⟩
    rw [List.take_of_length_le (by rw [List.length_map, hlen]; exact Nat.le_refl _)] at hacc
    refine ⟨acc, rules.map (·.1), rfl, SqL.of hacc, by rw [List.length_map]; omega, fun M hM hMx => ?_⟩
    have eM : M = Sd.longest rules := Sd.maxL_uniq hM hMx
    subst eM
    have hl7 := s7 _ _ hl6
    have s57 := s6.trans s7
    walk_at "rd"
    rename_i H8 s8
    rw [← hD]
    have s58 := s57.trans s8
    have hea8 := s58 _ _ hea
    have hd8 := s58 _ _ hd
    have hDp : 0 < D := by have := due_nn lines (Sd.longest rules); omega
    walk_at "rd"
    refine ⟨ea, CS, CS, some d, true, rfl, hea8, ⟨_, hd8⟩, Z.eS, Z.sS, ?_⟩
    walk_at "rd"
    refine ⟨ea, CS, some d, "ValueError", true, rfl, hea8, ⟨_, hd8⟩, Z.eS, Z.sV, ?_⟩
    walk_at "rd"
    refine ⟨ea, CS, CB, some d, false, rfl, hea8, ⟨_, hd8⟩, Z.eS, Z.sB, ?_⟩
    walk_at "rd"
    refine ⟨ea, CS, d, _, .int D, rfl, hea8, hd8, Z.eS, Z.hS, Z.nS, rfl, ?_⟩
    have eDD : decide (V.int D = V.int D) = true := decide_eq_true rfl
    walk_at "rd"
    refine ⟨ea, CS, d, _, .int D, rfl, hea8, hd8, Z.eS, Z.hS, Z.nS, rfl, ?_⟩
    walk_at "rd"
    rw [eDD]
    exact q _
  · obtain ⟨r0, rs', rfl, b0, hb0, hr0⟩ : ∃ r0 rs', rs = r0 :: rs' ∧ ∃ b0 : Rule, b0.1 ≠ 0 ∧ SqT K H5 r0 (r2 b0) := by
      have hlen := hT5.len
      rcases hr5 with (h | h | h) | h | h
      · subst h
        match rs, hlen with
        | [r], _ => exact ⟨r, [], rfl, (3, 5), by decide, hT5.at_ 0 r rfl⟩
      · subst h
        match rs, hlen with
        | [r, r'], _ => exact ⟨r, [r'], rfl, (1, 2), by decide, hT5.at_ 0 r rfl⟩
      · subst h
        match rs, hlen with
        | [r], _ => exact ⟨r, [], rfl, (5, 9), by decide, hT5.at_ 0 r rfl⟩
      · subst h; exact absurd ok bad_zero
      · subst h; exact absurd ok bad_nil
    have hlen := hT5.len
    have hrn : 1 ≤ rules.length ∧ rules.length ≤ 4 := ok.r.ln
    dsimp only
    walk_at "rd"
    intro pe npe
    have e0 : (if (false : Bool) = true then !eqVs ((r0 :: rs').map V.ref) [] else eqVs ((r0 :: rs').map V.ref) []) = false := rfl
    refine ⟨rl, pe, (r0 :: rs').map V.ref, [], rfl, rfl, SqL.of (at_new npe hrl5), SqL.of upd_same, okVs_nil, ?_⟩
    rw [e0]
    have s6 := Same.new npe (.lst [])
    have hrl6 := s6 _ _ hrl5
    have hT6 := hT5.same s6
    have hr6 := s6.tup hr0
    have hl6 := s6 _ _ hl5
    generalize upd H5 pe (.lst []) = H6 at s6 hrl6 hT6 hr6 hl6 ⊢
    have a0 : atI ((r0 :: rs').map V.ref) 0 = some (.ref r0) := by
      have h : atI ((r0 :: rs').map V.ref) ((0 : Nat) : Int) = some (.ref r0) := atI_nat rfl
      exact h
    have a1 : atI (r2 b0) 0 = some (.int b0.1) := rfl
    have ed : decide (V.int b0.1 = V.int 0) = false := decide_eq_false fun e => hb0 (V.int.inj e)
    walk_at "rd"
    intro acc n7
    refine comp_list (xs := (r0 :: rs').map V.ref) (fun i ys H7 => ys = ((rules.take i).map (·.1)).map V.int ∧ Same H6 H7 ∧ H7 acc = some (.lst ys)) ?_ ?_ ?_ ?_
    · exact ⟨rfl, Same.new n7 _, upd_same⟩
    · rintro i ys H7 _ ⟨_, s7, _⟩
      exact SqL.of (s7 _ _ hrl6)
    · rintro i x ys H7 hi hx ⟨rfl, s7, hacc⟩
      obtain ⟨r, rfl, er, hlt⟩ := getRef hx
      have hTr := hT6.at_ i r er
      walk_at "rd"
      refine ⟨small1000 (by rw [List.length_map, List.length_map, List.length_take]; omega), cstep hi ⟨?_, s7.mut n7, upd_same⟩⟩
      rw [List.take_succ, List.map_append, List.map_append, (getDr (ps := rules) (i := i) (by rw [← hlen]; exact hlt)).2]
      rfl
    rintro ys H7 ⟨rfl, s7, hacc⟩
    rw [List.take_of_length_le (by rw [List.length_map, hlen]; exact Nat.le_refl _)] at hacc
    refine ⟨acc, rules.map (·.1), rfl, SqL.of hacc, by rw [List.length_map]; omega, fun M hM hMx => ?_⟩
    have eM : M = Sd.longest rules := Sd.maxL_uniq hM hMx
    subst eM
    have hl7 := s7 _ _ hl6
    have s57 := s6.trans s7
    walk_at "rd"
    rename_i H8 s8
    rw [← hD]
    have s58 := s57.trans s8
    have PA8 := PA.same s58
    have hl8 := s58 _ _ hl5
    walk_at "rd"
    refine ⟨p, dx, dy, rl2, sn, r0 :: rs', cf31 rules, s, rfl, PA8, sm, fun l9 H9 s9 n9 h9 => ?_⟩
    have hl9 := s9 _ _ hl8
    rw [el] at hl9
    walk_at "r1"
    refine ⟨l9, l, _, _, rfl, rfl, SqL.of h9, SqL.of hl9, (self_str _).1, ?_⟩
    rw [(self_str _).2]
    exact q _
end
end Sp

set_option Elab.async false
set_option linter.all false
set_option maxRecDepth 100000
set_option maxHeartbeats 4000000
namespace Sp
open PySem L2
theorem cls_some {K : PySem.W.Frag} {C : Addr} {v : Value} {b : Bool} (h : PySem.W.mroIn K C v = some b) : (PySem.W.clsIn K C).isSome = true := by
  unfold PySem.W.mroIn at h
  cases e : PySem.W.clsIn K C with
  | none => rw [e] at h; cases h
  | some cd => rfl
theorem under_of {K : PySem.W.Frag} {C D : Addr} (h : PySem.W.mroIn K C (.ref D) = some true) : excUnder K C D = true := by
  unfold PySem.W.mroIn PySem.W.clsIn at h
  unfold excUnder
  split at h
  · rename_i e
    rw [e]
    dsimp only at h ⊢
    rw [Option.bind_some] at h
    split at h
    · cases h
    · exact Option.some.inj h
  · cases h
theorem all_mk {l : PySem.W.OpenLaw} {w : World} {K : PySem.W.Frag} {h : Heap} {mg : Str → Option Value} {fa : Addr} (X : K.In h) (G : h.Ns mainGlobals mg) (hfa : mg "law" = some (.ref fa))
    {C_DoseError : Addr}
    {C_BadSetting : Addr}
    {C_Locked : Addr}
    {C_NotThere : Addr}
    {C_BadSave : Addr}
    {C_Day : Addr}
    {f_Day_init : Addr} {od_Day_init an_Day_init : Option Addr} {sl_Day_init : Array (Option Value)} {oc_Day_init kV_Day_init dc_Day_init pm_Day_init cd_Day_init ct_Day_init : Value}
    {C_Pump : Addr}
    {f_Pump_init : Addr} {od_Pump_init an_Pump_init : Option Addr} {sl_Pump_init : Array (Option Value)} {oc_Pump_init kV_Pump_init dc_Pump_init pm_Pump_init cd_Pump_init ct_Pump_init : Value}
    {od_BadSave : Option Addr} {cd_BadSave : ClassData} {sl_BadSave : Array (Option Value)}
    {od_BadSetting : Option Addr} {cd_BadSetting : ClassData} {sl_BadSetting : Array (Option Value)}
    {k0_BadSave k1_BadSave k2_BadSave k3_BadSave k5_BadSave : Option Value}
    {f_BadSave_init : Addr} {od_BadSave_init an_BadSave_init : Option Addr} {sl_BadSave_init : Array (Option Value)} {oc_BadSave_init kV_BadSave_init dc_BadSave_init pm_BadSave_init cd_BadSave_init ct_BadSave_init : Value}
    {f_check_between : Addr} {od_check_between an_check_between : Option Addr} {sl_check_between : Array (Option Value)} {oc_check_between kV_check_between dc_check_between pm_check_between cd_check_between ct_check_between : Value}
    {f_drops_by : Addr} {od_drops_by an_drops_by : Option Addr} {sl_drops_by : Array (Option Value)} {oc_drops_by kV_drops_by dc_drops_by pm_drops_by cd_drops_by ct_drops_by : Value}
    {f_check_part : Addr} {od_check_part an_check_part : Option Addr} {sl_check_part : Array (Option Value)} {oc_check_part kV_check_part dc_check_part pm_check_part cd_check_part ct_check_part : Value}
    {f_check_day : Addr} {od_check_day an_check_day : Option Addr} {sl_check_day : Array (Option Value)} {oc_check_day kV_check_day dc_check_day pm_check_day cd_check_day ct_check_day : Value}
    {f_drops_within : Addr} {od_drops_within an_drops_within : Option Addr} {sl_drops_within : Array (Option Value)} {oc_drops_within kV_drops_within dc_drops_within pm_drops_within cd_drops_within ct_drops_within : Value}
    {f_sums_ahead : Addr} {od_sums_ahead an_sums_ahead : Option Addr} {sl_sums_ahead : Array (Option Value)} {oc_sums_ahead kV_sums_ahead dc_sums_ahead pm_sums_ahead cd_sums_ahead ct_sums_ahead : Value}
    {f_checked_rules : Addr} {od_checked_rules an_checked_rules : Option Addr} {sl_checked_rules : Array (Option Value)} {oc_checked_rules kV_checked_rules dc_checked_rules pm_checked_rules cd_checked_rules ct_checked_rules : Value}
    {f_longest_window : Addr} {od_longest_window an_longest_window : Option Addr} {sl_longest_window : Array (Option Value)} {oc_longest_window kV_longest_window dc_longest_window pm_longest_window cd_longest_window ct_longest_window : Value}
    {f_counts : Addr} {od_counts an_counts : Option Addr} {sl_counts : Array (Option Value)} {oc_counts kV_counts dc_counts pm_counts cd_counts ct_counts : Value}
    {f_set_counts : Addr} {od_set_counts an_set_counts : Option Addr} {sl_set_counts : Array (Option Value)} {oc_set_counts kV_set_counts dc_set_counts pm_set_counts cd_set_counts ct_set_counts : Value}
    {f_line_of : Addr} {od_line_of an_line_of : Option Addr} {sl_line_of : Array (Option Value)} {oc_line_of kV_line_of dc_line_of pm_line_of cd_line_of ct_line_of : Value}
    {f_saved : Addr} {od_saved an_saved : Option Addr} {sl_saved : Array (Option Value)} {oc_saved kV_saved dc_saved pm_saved cd_saved ct_saved : Value}
    {f_is_number : Addr} {od_is_number an_is_number : Option Addr} {sl_is_number : Array (Option Value)} {oc_is_number kV_is_number dc_is_number pm_is_number cd_is_number ct_is_number : Value}
    {f_numbers_of : Addr} {od_numbers_of an_numbers_of : Option Addr} {sl_numbers_of : Array (Option Value)} {oc_numbers_of kV_numbers_of dc_numbers_of pm_numbers_of cd_numbers_of ct_numbers_of : Value}
    {f_fits : Addr} {od_fits an_fits : Option Addr} {sl_fits : Array (Option Value)} {oc_fits kV_fits dc_fits pm_fits cd_fits ct_fits : Value}
    {f_rows_of : Addr} {od_rows_of an_rows_of : Option Addr} {sl_rows_of : Array (Option Value)} {oc_rows_of kV_rows_of dc_rows_of pm_rows_of cd_rows_of ct_rows_of : Value}
    {f_loaded : Addr} {od_loaded an_loaded : Option Addr} {sl_loaded : Array (Option Value)} {oc_loaded kV_loaded dc_loaded pm_loaded cd_loaded ct_loaded : Value}
    {f_Lcell : Addr} {od_Lcell an_Lcell : Option Addr} {sl_Lcell : Array (Option Value)} {oc_Lcell kV_Lcell dc_Lcell pm_Lcell cd_Lcell ct_Lcell : Value}
    {f_Lmix : Addr} {od_Lmix an_Lmix : Option Addr} {sl_Lmix : Array (Option Value)} {oc_Lmix kV_Lmix dc_Lmix pm_Lmix cd_Lmix ct_Lmix : Value}
    {f_Lwhole : Addr} {od_Lwhole an_Lwhole : Option Addr} {sl_Lwhole : Array (Option Value)} {oc_Lwhole kV_Lwhole dc_Lwhole pm_Lwhole cd_Lwhole ct_Lwhole : Value}
    {f_Lwords : Addr} {od_Lwords an_Lwords : Option Addr} {sl_Lwords : Array (Option Value)} {oc_Lwords kV_Lwords dc_Lwords pm_Lwords cd_Lwords ct_Lwords : Value}
    {f_Ldrawn : Addr} {od_Ldrawn an_Ldrawn : Option Addr} {sl_Ldrawn : Array (Option Value)} {oc_Ldrawn kV_Ldrawn dc_Ldrawn pm_Ldrawn cd_Ldrawn ct_Ldrawn : Value}
    {f_Lchanged : Addr} {od_Lchanged an_Lchanged : Option Addr} {sl_Lchanged : Array (Option Value)} {oc_Lchanged kV_Lchanged dc_Lchanged pm_Lchanged cd_Lchanged ct_Lchanged : Value}
    {f_Lnumber : Addr} {od_Lnumber an_Lnumber : Option Addr} {sl_Lnumber : Array (Option Value)} {oc_Lnumber kV_Lnumber dc_Lnumber pm_Lnumber cd_Lnumber ct_Lnumber : Value}
    {f_Ldue : Addr} {od_Ldue an_Ldue : Option Addr} {sl_Ldue : Array (Option Value)} {oc_Ldue kV_Ldue dc_Ldue pm_Ldue cd_Ldue ct_Ldue : Value}
    {f_law : Addr} {od_law an_law : Option Addr} {sl_law : Array (Option Value)} {oc_law kV_law dc_law pm_law cd_law ct_law : Value}
    {tk_MOST_DROPS_rates : Tok}
    {tk_MOST_TICKS : Tok}
    {tk_MOST_DROPS_limits : Tok}
    {tk_MOST_RULES : Tok}
    {tk_LONGEST_WINDOW : Tok}
    {tk_MOST : Tok}
    {tk_MOST_FIGURES : Tok}
    {tk_FIGURES : Tok}
    {A_WORDS : Addr} {od_WORDS : Option Addr} {sl_WORDS : Array (Option Value)} {its_WORDS : Array Value} {nn_WORDS : Nat}
    (a_DoseError : PySem.W.nsIn K mainGlobals "DoseError" = some (some (.ref C_DoseError)))
    (a_BadSetting : PySem.W.nsIn K mainGlobals "BadSetting" = some (some (.ref C_BadSetting)))
    (a_Locked : PySem.W.nsIn K mainGlobals "Locked" = some (some (.ref C_Locked)))
    (a_NotThere : PySem.W.nsIn K mainGlobals "NotThere" = some (some (.ref C_NotThere)))
    (a_BadSave : PySem.W.nsIn K mainGlobals "BadSave" = some (some (.ref C_BadSave)))
    (x_BadSetting : PySem.W.excIn K C_BadSetting [.type "ValueError", .type "Exception", .type "BaseException", .type "object"] "ValueError.__new__" = true)
    (t_BadSetting : PySem.W.ktsIn K C_BadSetting "BaseException" = true)
    (u_BadSetting : PySem.W.mroIn K C_BadSetting (.ref C_DoseError) = some true)
    (eg_BadSetting : PySem.W.findIn K (.ref C_BadSetting) "__getattribute__" = some (some (.builtin "BaseException.__getattribute__")))
    (eh_BadSetting : PySem.W.findIn K (.ref C_BadSetting) "__getattr__" = some none)
    (eb_BadSetting : PySem.W.mroIn K C_BadSetting (.type "BaseException") = some true)
    (eo_BadSetting : PySem.W.mroIn K C_BadSetting (.type "object") = some true)
    (ec_BadSetting : PySem.W.findIn K (.ref C_BadSetting) "__class__" = some (some (.builtin "object.__class__")))
    (t_DoseError : PySem.W.ktsIn K C_DoseError "BaseException" = true)
    (cg : PySem.W.specialIn K (.builtin "object.__class__") "__get__" = some (some (.builtin "getset_descriptor.__get__")))
    (ct : PySem.W.takesIn K (.builtin "object.__class__") = some true)
    (a_Day : PySem.W.nsIn K mainGlobals "Day" = some (some (.ref C_Day)))
    (pg_Day : PySem.W.plainGet K C_Day Str.empty = true)
    (hd_Day : PySem.W.hasDictIn K C_Day = true)
    (po_Day : PySem.W.plainOver K C_Day = true)
    (sa_Day : PySem.W.findIn K (.ref C_Day) "__setattr__" = some (some (.builtin "object.__setattr__")))
    (mk_Day : PySem.W.makesIn K C_Day = true)
    (kc_Day : PySem.W.keepIn K (.ref C_Day) = true)
    (n_Day_ticks : PySem.W.findIn K (.ref C_Day) "ticks" = some none)
    (n_Day_parts : PySem.W.findIn K (.ref C_Day) "parts" = some none)
    (n_Day_sums : PySem.W.findIn K (.ref C_Day) "sums" = some none)
    (a_Day_init : PySem.W.findIn K (.ref C_Day) "__init__" = some (some (.ref f_Day_init)))
    (i_Day_init : PySem.W.isFn K (.ref f_Day_init) = true)
    (l_Day_init : K.lookup f_Day_init = some ⟨oc_Day_init, od_Day_init, .func (PySem.W.fnOf "__init__" "Day.__init__" (defArgs s_Day_init) (defBody s_Day_init) (defScope s_Day_init) .none kV_Day_init dc_Day_init pm_Day_init an_Day_init cd_Day_init ct_Day_init), sl_Day_init⟩)
    (c_Day_init : PySem.W.codeIn K cd_Day_init "Day.__init__" = true)
    (k_Day_init : PySem.W.keepIn K (.ref f_Day_init) = true)
    (a_Pump : PySem.W.nsIn K mainGlobals "Pump" = some (some (.ref C_Pump)))
    (pg_Pump : PySem.W.plainGet K C_Pump Str.empty = true)
    (hd_Pump : PySem.W.hasDictIn K C_Pump = true)
    (po_Pump : PySem.W.plainOver K C_Pump = true)
    (sa_Pump : PySem.W.findIn K (.ref C_Pump) "__setattr__" = some (some (.builtin "object.__setattr__")))
    (mk_Pump : PySem.W.makesIn K C_Pump = true)
    (kc_Pump : PySem.W.keepIn K (.ref C_Pump) = true)
    (n_Pump_day : PySem.W.findIn K (.ref C_Pump) "day" = some none)
    (n_Pump_rules : PySem.W.findIn K (.ref C_Pump) "rules" = some none)
    (n_Pump_lock : PySem.W.findIn K (.ref C_Pump) "lock" = some none)
    (n_Pump_dose : PySem.W.findIn K (.ref C_Pump) "dose" = some none)
    (n_Pump_hold : PySem.W.findIn K (.ref C_Pump) "hold" = some none)
    (n_Pump_now : PySem.W.findIn K (.ref C_Pump) "now" = some none)
    (n_Pump_running : PySem.W.findIn K (.ref C_Pump) "running" = some none)
    (n_Pump_content : PySem.W.findIn K (.ref C_Pump) "content" = some none)
    (n_Pump_waiting : PySem.W.findIn K (.ref C_Pump) "waiting" = some none)
    (n_Pump_asked : PySem.W.findIn K (.ref C_Pump) "asked" = some none)
    (n_Pump_missed : PySem.W.findIn K (.ref C_Pump) "missed" = some none)
    (n_Pump_total : PySem.W.findIn K (.ref C_Pump) "total" = some none)
    (n_Pump_free : PySem.W.findIn K (.ref C_Pump) "free" = some none)
    (n_Pump_sent : PySem.W.findIn K (.ref C_Pump) "sent" = some none)
    (a_Pump_init : PySem.W.findIn K (.ref C_Pump) "__init__" = some (some (.ref f_Pump_init)))
    (i_Pump_init : PySem.W.isFn K (.ref f_Pump_init) = true)
    (l_Pump_init : K.lookup f_Pump_init = some ⟨oc_Pump_init, od_Pump_init, .func (PySem.W.fnOf "__init__" "Pump.__init__" (defArgs s_Pump_init) (defBody s_Pump_init) (defScope s_Pump_init) .none kV_Pump_init dc_Pump_init pm_Pump_init an_Pump_init cd_Pump_init ct_Pump_init), sl_Pump_init⟩)
    (c_Pump_init : PySem.W.codeIn K cd_Pump_init "Pump.__init__" = true)
    (k_Pump_init : PySem.W.keepIn K (.ref f_Pump_init) = true)
    (l_BadSave : K.lookup C_BadSave = some ⟨.type "type", od_BadSave, .cls cd_BadSave, sl_BadSave⟩)
    (m_BadSave : cd_BadSave.mro = [.ref C_BadSave, .ref C_DoseError, .type "ValueError", .type "Exception", .type "BaseException", .type "object"])
    (l_BadSetting : K.lookup C_BadSetting = some ⟨.type "type", od_BadSetting, .cls cd_BadSetting, sl_BadSetting⟩)
    (m_BadSetting : cd_BadSetting.mro = [.ref C_BadSetting, .ref C_DoseError, .type "ValueError", .type "Exception", .type "BaseException", .type "object"])
    (q_BadSave : sl_BadSave = #[k0_BadSave, k1_BadSave, k2_BadSave, k3_BadSave, some (.builtin "ValueError.__new__"), k5_BadSave])
    (d_BadSave : cd_BadSave.hasDel = false)
    (g_BadSave : cd_BadSave.hasDict = true)
    (hd_BadSave : PySem.W.hasDictIn K C_BadSave = true)
    (sa_BadSave : PySem.W.findIn K (.ref C_BadSave) "__setattr__" = some (some (.builtin "object.__setattr__")))
    (kc_BadSave : PySem.W.keepIn K (.ref C_BadSave) = true)
    (n_BadSave_line : PySem.W.findIn K (.ref C_BadSave) "line" = some none)
    (t_BadSave : PySem.W.ktsIn K C_BadSave "BaseException" = true)
    (u_BadSave : PySem.W.mroIn K C_BadSave (.ref C_DoseError) = some true)
    (eg_BadSave : PySem.W.findIn K (.ref C_BadSave) "__getattribute__" = some (some (.builtin "BaseException.__getattribute__")))
    (eh_BadSave : PySem.W.findIn K (.ref C_BadSave) "__getattr__" = some none)
    (eb_BadSave : PySem.W.mroIn K C_BadSave (.type "BaseException") = some true)
    (eo_BadSave : PySem.W.mroIn K C_BadSave (.type "object") = some true)
    (ec_BadSave : PySem.W.findIn K (.ref C_BadSave) "__class__" = some (some (.builtin "object.__class__")))
    (a_BadSave_init : PySem.W.findIn K (.ref C_BadSave) "__init__" = some (some (.ref f_BadSave_init)))
    (i_BadSave_init : PySem.W.isFn K (.ref f_BadSave_init) = true)
    (l_BadSave_init : K.lookup f_BadSave_init = some ⟨oc_BadSave_init, od_BadSave_init, .func (PySem.W.fnOf "__init__" "BadSave.__init__" (defArgs s_BadSave_init) (defBody s_BadSave_init) (defScope s_BadSave_init) .none kV_BadSave_init dc_BadSave_init pm_BadSave_init an_BadSave_init cd_BadSave_init ct_BadSave_init), sl_BadSave_init⟩)
    (c_BadSave_init : PySem.W.codeIn K cd_BadSave_init "BadSave.__init__" = true)
    (k_BadSave_init : PySem.W.keepIn K (.ref f_BadSave_init) = true)
    (a_check_between : PySem.W.nsIn K mainGlobals "check_between" = some (some (.ref f_check_between)))
    (l_check_between : K.lookup f_check_between = some ⟨oc_check_between, od_check_between, .func (PySem.W.fnOf "check_between" "check_between" (defArgs s_check_between) (defBody s_check_between) (defScope s_check_between) .none kV_check_between dc_check_between pm_check_between an_check_between cd_check_between ct_check_between), sl_check_between⟩)
    (c_check_between : PySem.W.codeIn K cd_check_between "check_between" = true)
    (k_check_between : PySem.W.keepIn K (.ref f_check_between) = true)
    (a_drops_by : PySem.W.nsIn K mainGlobals "drops_by" = some (some (.ref f_drops_by)))
    (l_drops_by : K.lookup f_drops_by = some ⟨oc_drops_by, od_drops_by, .func (PySem.W.fnOf "drops_by" "drops_by" (defArgs s_drops_by) (defBody s_drops_by) (defScope s_drops_by) .none kV_drops_by dc_drops_by pm_drops_by an_drops_by cd_drops_by ct_drops_by), sl_drops_by⟩)
    (c_drops_by : PySem.W.codeIn K cd_drops_by "drops_by" = true)
    (k_drops_by : PySem.W.keepIn K (.ref f_drops_by) = true)
    (a_check_part : PySem.W.nsIn K mainGlobals "check_part" = some (some (.ref f_check_part)))
    (l_check_part : K.lookup f_check_part = some ⟨oc_check_part, od_check_part, .func (PySem.W.fnOf "check_part" "check_part" (defArgs s_check_part) (defBody s_check_part) (defScope s_check_part) .none kV_check_part dc_check_part pm_check_part an_check_part cd_check_part ct_check_part), sl_check_part⟩)
    (c_check_part : PySem.W.codeIn K cd_check_part "check_part" = true)
    (k_check_part : PySem.W.keepIn K (.ref f_check_part) = true)
    (a_check_day : PySem.W.nsIn K mainGlobals "check_day" = some (some (.ref f_check_day)))
    (l_check_day : K.lookup f_check_day = some ⟨oc_check_day, od_check_day, .func (PySem.W.fnOf "check_day" "check_day" (defArgs s_check_day) (defBody s_check_day) (defScope s_check_day) .none kV_check_day dc_check_day pm_check_day an_check_day cd_check_day ct_check_day), sl_check_day⟩)
    (c_check_day : PySem.W.codeIn K cd_check_day "check_day" = true)
    (k_check_day : PySem.W.keepIn K (.ref f_check_day) = true)
    (a_drops_within : PySem.W.nsIn K mainGlobals "drops_within" = some (some (.ref f_drops_within)))
    (l_drops_within : K.lookup f_drops_within = some ⟨oc_drops_within, od_drops_within, .func (PySem.W.fnOf "drops_within" "drops_within" (defArgs s_drops_within) (defBody s_drops_within) (defScope s_drops_within) .none kV_drops_within dc_drops_within pm_drops_within an_drops_within cd_drops_within ct_drops_within), sl_drops_within⟩)
    (c_drops_within : PySem.W.codeIn K cd_drops_within "drops_within" = true)
    (k_drops_within : PySem.W.keepIn K (.ref f_drops_within) = true)
    (a_sums_ahead : PySem.W.nsIn K mainGlobals "sums_ahead" = some (some (.ref f_sums_ahead)))
    (l_sums_ahead : K.lookup f_sums_ahead = some ⟨oc_sums_ahead, od_sums_ahead, .func (PySem.W.fnOf "sums_ahead" "sums_ahead" (defArgs s_sums_ahead) (defBody s_sums_ahead) (defScope s_sums_ahead) .none kV_sums_ahead dc_sums_ahead pm_sums_ahead an_sums_ahead cd_sums_ahead ct_sums_ahead), sl_sums_ahead⟩)
    (c_sums_ahead : PySem.W.codeIn K cd_sums_ahead "sums_ahead" = true)
    (k_sums_ahead : PySem.W.keepIn K (.ref f_sums_ahead) = true)
    (a_checked_rules : PySem.W.nsIn K mainGlobals "checked_rules" = some (some (.ref f_checked_rules)))
    (l_checked_rules : K.lookup f_checked_rules = some ⟨oc_checked_rules, od_checked_rules, .func (PySem.W.fnOf "checked_rules" "checked_rules" (defArgs s_checked_rules) (defBody s_checked_rules) (defScope s_checked_rules) .none kV_checked_rules dc_checked_rules pm_checked_rules an_checked_rules cd_checked_rules ct_checked_rules), sl_checked_rules⟩)
    (c_checked_rules : PySem.W.codeIn K cd_checked_rules "checked_rules" = true)
    (k_checked_rules : PySem.W.keepIn K (.ref f_checked_rules) = true)
    (a_longest_window : PySem.W.nsIn K mainGlobals "longest_window" = some (some (.ref f_longest_window)))
    (l_longest_window : K.lookup f_longest_window = some ⟨oc_longest_window, od_longest_window, .func (PySem.W.fnOf "longest_window" "longest_window" (defArgs s_longest_window) (defBody s_longest_window) (defScope s_longest_window) .none kV_longest_window dc_longest_window pm_longest_window an_longest_window cd_longest_window ct_longest_window), sl_longest_window⟩)
    (c_longest_window : PySem.W.codeIn K cd_longest_window "longest_window" = true)
    (k_longest_window : PySem.W.keepIn K (.ref f_longest_window) = true)
    (a_counts : PySem.W.nsIn K mainGlobals "counts" = some (some (.ref f_counts)))
    (l_counts : K.lookup f_counts = some ⟨oc_counts, od_counts, .func (PySem.W.fnOf "counts" "counts" (defArgs s_counts) (defBody s_counts) (defScope s_counts) .none kV_counts dc_counts pm_counts an_counts cd_counts ct_counts), sl_counts⟩)
    (c_counts : PySem.W.codeIn K cd_counts "counts" = true)
    (k_counts : PySem.W.keepIn K (.ref f_counts) = true)
    (a_set_counts : PySem.W.nsIn K mainGlobals "set_counts" = some (some (.ref f_set_counts)))
    (l_set_counts : K.lookup f_set_counts = some ⟨oc_set_counts, od_set_counts, .func (PySem.W.fnOf "set_counts" "set_counts" (defArgs s_set_counts) (defBody s_set_counts) (defScope s_set_counts) .none kV_set_counts dc_set_counts pm_set_counts an_set_counts cd_set_counts ct_set_counts), sl_set_counts⟩)
    (c_set_counts : PySem.W.codeIn K cd_set_counts "set_counts" = true)
    (k_set_counts : PySem.W.keepIn K (.ref f_set_counts) = true)
    (a_line_of : PySem.W.nsIn K mainGlobals "line_of" = some (some (.ref f_line_of)))
    (l_line_of : K.lookup f_line_of = some ⟨oc_line_of, od_line_of, .func (PySem.W.fnOf "line_of" "line_of" (defArgs s_line_of) (defBody s_line_of) (defScope s_line_of) .none kV_line_of dc_line_of pm_line_of an_line_of cd_line_of ct_line_of), sl_line_of⟩)
    (c_line_of : PySem.W.codeIn K cd_line_of "line_of" = true)
    (k_line_of : PySem.W.keepIn K (.ref f_line_of) = true)
    (a_saved : PySem.W.nsIn K mainGlobals "saved" = some (some (.ref f_saved)))
    (l_saved : K.lookup f_saved = some ⟨oc_saved, od_saved, .func (PySem.W.fnOf "saved" "saved" (defArgs s_saved) (defBody s_saved) (defScope s_saved) .none kV_saved dc_saved pm_saved an_saved cd_saved ct_saved), sl_saved⟩)
    (c_saved : PySem.W.codeIn K cd_saved "saved" = true)
    (k_saved : PySem.W.keepIn K (.ref f_saved) = true)
    (a_is_number : PySem.W.nsIn K mainGlobals "is_number" = some (some (.ref f_is_number)))
    (l_is_number : K.lookup f_is_number = some ⟨oc_is_number, od_is_number, .func (PySem.W.fnOf "is_number" "is_number" (defArgs s_is_number) (defBody s_is_number) (defScope s_is_number) .none kV_is_number dc_is_number pm_is_number an_is_number cd_is_number ct_is_number), sl_is_number⟩)
    (c_is_number : PySem.W.codeIn K cd_is_number "is_number" = true)
    (k_is_number : PySem.W.keepIn K (.ref f_is_number) = true)
    (a_numbers_of : PySem.W.nsIn K mainGlobals "numbers_of" = some (some (.ref f_numbers_of)))
    (l_numbers_of : K.lookup f_numbers_of = some ⟨oc_numbers_of, od_numbers_of, .func (PySem.W.fnOf "numbers_of" "numbers_of" (defArgs s_numbers_of) (defBody s_numbers_of) (defScope s_numbers_of) .none kV_numbers_of dc_numbers_of pm_numbers_of an_numbers_of cd_numbers_of ct_numbers_of), sl_numbers_of⟩)
    (c_numbers_of : PySem.W.codeIn K cd_numbers_of "numbers_of" = true)
    (k_numbers_of : PySem.W.keepIn K (.ref f_numbers_of) = true)
    (a_fits : PySem.W.nsIn K mainGlobals "fits" = some (some (.ref f_fits)))
    (l_fits : K.lookup f_fits = some ⟨oc_fits, od_fits, .func (PySem.W.fnOf "fits" "fits" (defArgs s_fits) (defBody s_fits) (defScope s_fits) .none kV_fits dc_fits pm_fits an_fits cd_fits ct_fits), sl_fits⟩)
    (c_fits : PySem.W.codeIn K cd_fits "fits" = true)
    (k_fits : PySem.W.keepIn K (.ref f_fits) = true)
    (a_rows_of : PySem.W.nsIn K mainGlobals "rows_of" = some (some (.ref f_rows_of)))
    (l_rows_of : K.lookup f_rows_of = some ⟨oc_rows_of, od_rows_of, .func (PySem.W.fnOf "rows_of" "rows_of" (defArgs s_rows_of) (defBody s_rows_of) (defScope s_rows_of) .none kV_rows_of dc_rows_of pm_rows_of an_rows_of cd_rows_of ct_rows_of), sl_rows_of⟩)
    (c_rows_of : PySem.W.codeIn K cd_rows_of "rows_of" = true)
    (k_rows_of : PySem.W.keepIn K (.ref f_rows_of) = true)
    (a_loaded : PySem.W.nsIn K mainGlobals "loaded" = some (some (.ref f_loaded)))
    (l_loaded : K.lookup f_loaded = some ⟨oc_loaded, od_loaded, .func (PySem.W.fnOf "loaded" "loaded" (defArgs s_loaded) (defBody s_loaded) (defScope s_loaded) .none kV_loaded dc_loaded pm_loaded an_loaded cd_loaded ct_loaded), sl_loaded⟩)
    (c_loaded : PySem.W.codeIn K cd_loaded "loaded" = true)
    (k_loaded : PySem.W.keepIn K (.ref f_loaded) = true)
    (a_Lcell : PySem.W.nsIn K mainGlobals "_law_cell" = some (some (.ref f_Lcell)))
    (l_Lcell : K.lookup f_Lcell = some ⟨oc_Lcell, od_Lcell, .func (PySem.W.fnOf "_law_cell" "_law_cell" (defArgs s_Lcell) (defBody s_Lcell) (defScope s_Lcell) .none kV_Lcell dc_Lcell pm_Lcell an_Lcell cd_Lcell ct_Lcell), sl_Lcell⟩)
    (c_Lcell : PySem.W.codeIn K cd_Lcell "_law_cell" = true)
    (k_Lcell : PySem.W.keepIn K (.ref f_Lcell) = true)
    (a_Lmix : PySem.W.nsIn K mainGlobals "_law_mix" = some (some (.ref f_Lmix)))
    (l_Lmix : K.lookup f_Lmix = some ⟨oc_Lmix, od_Lmix, .func (PySem.W.fnOf "_law_mix" "_law_mix" (defArgs s_Lmix) (defBody s_Lmix) (defScope s_Lmix) .none kV_Lmix dc_Lmix pm_Lmix an_Lmix cd_Lmix ct_Lmix), sl_Lmix⟩)
    (c_Lmix : PySem.W.codeIn K cd_Lmix "_law_mix" = true)
    (k_Lmix : PySem.W.keepIn K (.ref f_Lmix) = true)
    (a_Lwhole : PySem.W.nsIn K mainGlobals "_law_whole" = some (some (.ref f_Lwhole)))
    (l_Lwhole : K.lookup f_Lwhole = some ⟨oc_Lwhole, od_Lwhole, .func (PySem.W.fnOf "_law_whole" "_law_whole" (defArgs s_Lwhole) (defBody s_Lwhole) (defScope s_Lwhole) .none kV_Lwhole dc_Lwhole pm_Lwhole an_Lwhole cd_Lwhole ct_Lwhole), sl_Lwhole⟩)
    (c_Lwhole : PySem.W.codeIn K cd_Lwhole "_law_whole" = true)
    (k_Lwhole : PySem.W.keepIn K (.ref f_Lwhole) = true)
    (a_Lwords : PySem.W.nsIn K mainGlobals "_law_words" = some (some (.ref f_Lwords)))
    (l_Lwords : K.lookup f_Lwords = some ⟨oc_Lwords, od_Lwords, .func (PySem.W.fnOf "_law_words" "_law_words" (defArgs s_Lwords) (defBody s_Lwords) (defScope s_Lwords) .none kV_Lwords dc_Lwords pm_Lwords an_Lwords cd_Lwords ct_Lwords), sl_Lwords⟩)
    (c_Lwords : PySem.W.codeIn K cd_Lwords "_law_words" = true)
    (k_Lwords : PySem.W.keepIn K (.ref f_Lwords) = true)
    (a_Ldrawn : PySem.W.nsIn K mainGlobals "_law_drawn" = some (some (.ref f_Ldrawn)))
    (l_Ldrawn : K.lookup f_Ldrawn = some ⟨oc_Ldrawn, od_Ldrawn, .func (PySem.W.fnOf "_law_drawn" "_law_drawn" (defArgs s_Ldrawn) (defBody s_Ldrawn) (defScope s_Ldrawn) .none kV_Ldrawn dc_Ldrawn pm_Ldrawn an_Ldrawn cd_Ldrawn ct_Ldrawn), sl_Ldrawn⟩)
    (c_Ldrawn : PySem.W.codeIn K cd_Ldrawn "_law_drawn" = true)
    (k_Ldrawn : PySem.W.keepIn K (.ref f_Ldrawn) = true)
    (a_Lchanged : PySem.W.nsIn K mainGlobals "_law_changed" = some (some (.ref f_Lchanged)))
    (l_Lchanged : K.lookup f_Lchanged = some ⟨oc_Lchanged, od_Lchanged, .func (PySem.W.fnOf "_law_changed" "_law_changed" (defArgs s_Lchanged) (defBody s_Lchanged) (defScope s_Lchanged) .none kV_Lchanged dc_Lchanged pm_Lchanged an_Lchanged cd_Lchanged ct_Lchanged), sl_Lchanged⟩)
    (c_Lchanged : PySem.W.codeIn K cd_Lchanged "_law_changed" = true)
    (k_Lchanged : PySem.W.keepIn K (.ref f_Lchanged) = true)
    (a_Lnumber : PySem.W.nsIn K mainGlobals "_law_number" = some (some (.ref f_Lnumber)))
    (l_Lnumber : K.lookup f_Lnumber = some ⟨oc_Lnumber, od_Lnumber, .func (PySem.W.fnOf "_law_number" "_law_number" (defArgs s_Lnumber) (defBody s_Lnumber) (defScope s_Lnumber) .none kV_Lnumber dc_Lnumber pm_Lnumber an_Lnumber cd_Lnumber ct_Lnumber), sl_Lnumber⟩)
    (c_Lnumber : PySem.W.codeIn K cd_Lnumber "_law_number" = true)
    (k_Lnumber : PySem.W.keepIn K (.ref f_Lnumber) = true)
    (a_Ldue : PySem.W.nsIn K mainGlobals "_law_due" = some (some (.ref f_Ldue)))
    (l_Ldue : K.lookup f_Ldue = some ⟨oc_Ldue, od_Ldue, .func (PySem.W.fnOf "_law_due" "_law_due" (defArgs s_Ldue) (defBody s_Ldue) (defScope s_Ldue) .none kV_Ldue dc_Ldue pm_Ldue an_Ldue cd_Ldue ct_Ldue), sl_Ldue⟩)
    (c_Ldue : PySem.W.codeIn K cd_Ldue "_law_due" = true)
    (k_Ldue : PySem.W.keepIn K (.ref f_Ldue) = true)
    (a_law : PySem.W.nsIn K mainGlobals "law" = some (some (.ref f_law)))
    (l_law : K.lookup f_law = some ⟨oc_law, od_law, .func (PySem.W.fnOf "law" "law" (defArgs s_law) (defBody s_law) (defScope s_law) .none kV_law dc_law pm_law an_law cd_law ct_law), sl_law⟩)
    (c_law : PySem.W.codeIn K cd_law "law" = true)
    (k_law : PySem.W.keepIn K (.ref f_law) = true)
    (z_len : PySem.W.nsIn K mainGlobals "len" = some none)
    (z_zip : PySem.W.nsIn K mainGlobals "zip" = some none)
    (z_tuple : PySem.W.nsIn K mainGlobals "tuple" = some none)
    (z_range : PySem.W.nsIn K mainGlobals "range" = some none)
    (z_max : PySem.W.nsIn K mainGlobals "max" = some none)
    (z_min : PySem.W.nsIn K mainGlobals "min" = some none)
    (z_isinstance : PySem.W.nsIn K mainGlobals "isinstance" = some none)
    (z_int : PySem.W.nsIn K mainGlobals "int" = some none)
    (z_bool : PySem.W.nsIn K mainGlobals "bool" = some none)
    (z_str : PySem.W.nsIn K mainGlobals "str" = some none)
    (z_list : PySem.W.nsIn K mainGlobals "list" = some none)
    (z_sum : PySem.W.nsIn K mainGlobals "sum" = some none)
    (z_all : PySem.W.nsIn K mainGlobals "all" = some none)
    (z_ValueError : PySem.W.nsIn K mainGlobals "ValueError" = some none)
    (z_enumerate : PySem.W.nsIn K mainGlobals "enumerate" = some none)
    (z_MOST_DROPS_rates : PySem.W.nsIn K mainGlobals "MOST_DROPS_rates" = some (some (.int 1000000 tk_MOST_DROPS_rates)))
    (z_MOST_TICKS : PySem.W.nsIn K mainGlobals "MOST_TICKS" = some (some (.int 1000000 tk_MOST_TICKS)))
    (z_MOST_DROPS_limits : PySem.W.nsIn K mainGlobals "MOST_DROPS_limits" = some (some (.int 1000000 tk_MOST_DROPS_limits)))
    (z_MOST_RULES : PySem.W.nsIn K mainGlobals "MOST_RULES" = some (some (.int 4 tk_MOST_RULES)))
    (z_LONGEST_WINDOW : PySem.W.nsIn K mainGlobals "LONGEST_WINDOW" = some (some (.int 1000 tk_LONGEST_WINDOW)))
    (z_MOST : PySem.W.nsIn K mainGlobals "MOST" = some (some (.int 1000000 tk_MOST)))
    (z_MOST_FIGURES : PySem.W.nsIn K mainGlobals "MOST_FIGURES" = some (some (.int 15 tk_MOST_FIGURES)))
    (z_FIGURES : PySem.W.nsIn K mainGlobals "FIGURES" = some (some (.str "0123456789" tk_FIGURES)))
    (a_WORDS : PySem.W.nsIn K mainGlobals "WORDS" = some (some (.ref A_WORDS)))
    (l_WORDS : K.lookup A_WORDS = some ⟨.type "tuple", od_WORDS, .seq its_WORDS nn_WORDS, sl_WORDS⟩)
    (v_WORDS : Vals (words9.map V.str) its_WORDS.toList)
    (kit_ib : PySem.W.kitOne K (.type "int") (.type "bool") = some false)
    (kit_bb : PySem.W.kitOne K (.ref C_BadSetting) (.ref C_BadSetting) = some true)
    (kit_bm : PySem.W.kitAny K (.ref C_BadSetting) [.ref C_Locked, .ref C_NotThere, .ref C_BadSave] = some false)
    (kit_ss : PySem.W.kitOne K (.ref C_BadSave) (.ref C_BadSave) = some true)
    (kit_sv : PySem.W.kitOne K (.ref C_BadSave) (.type "ValueError") = some true)
    (kit_sb : PySem.W.kitOne K (.ref C_BadSave) (.ref C_BadSetting) = some false) :
    ∃ fd : FuncData, (∀ (s : Shared) (v : Value), BindsTo s fd ⟨[v], []⟩ [("_law_script", v)]) ∧ ∀ base : Heap, K.In base → base.Ns mainGlobals mg → FnOk l.prog w K mg base CX0 6 fa fd ["_law_script"] (spLaw K) := by
  have e := hfa.symm.trans (PySem.W.mg_of X G a_law)
  cases e
  have E_BadSetting : ExcK K C_BadSetting := ⟨cls_some u_BadSetting, eg_BadSetting, eh_BadSetting, eb_BadSetting, eo_BadSetting, ec_BadSetting, cg, ct⟩
  have M_BadSetting : ExcM K C_BadSetting C_DoseError := ⟨t_BadSetting, under_of u_BadSetting⟩
  have cl_Day : Cls K C_Day := ⟨pg_Day, hd_Day, po_Day, sa_Day⟩
  have F_Day_init := fun_mk (st := s_Day_init) l_Day_init c_Day_init k_Day_init
  have b_Day_init := F_Day_init.binds (ps := ["self", "ticks", "parts"]) fun _ _ _ _ _ _ us hl => match us, hl with | [_, _, _], _ => rfl
  have cl_Pump : Cls K C_Pump := ⟨pg_Pump, hd_Pump, po_Pump, sa_Pump⟩
  have F_Pump_init := fun_mk (st := s_Pump_init) l_Pump_init c_Pump_init k_Pump_init
  have b_Pump_init := F_Pump_init.binds (ps := ["self", "day", "rules", "lock", "dose", "hold"]) fun _ _ _ _ _ _ us hl => match us, hl with | [_, _, _, _, _, _], _ => rfl
  have E_BadSave : ExcK K C_BadSave := ⟨cls_some u_BadSave, eg_BadSave, eh_BadSave, eb_BadSave, eo_BadSave, ec_BadSave, cg, ct⟩
  have M_BadSave : ExcM K C_BadSave C_DoseError := ⟨t_BadSave, under_of u_BadSave⟩
  have F_BadSave_init := fun_mk (st := s_BadSave_init) l_BadSave_init c_BadSave_init k_BadSave_init
  have b_BadSave_init := F_BadSave_init.binds (ps := ["self", "line"]) fun _ _ _ _ _ _ us hl => match us, hl with | [_, _], _ => rfl
  have F_check_between := fun_mk (st := s_check_between) l_check_between c_check_between k_check_between
  have b_check_between := F_check_between.binds (ps := ["what", "number", "least", "most"]) fun _ _ _ _ _ _ us hl => match us, hl with | [_, _, _, _], _ => rfl
  have F_drops_by := fun_mk (st := s_drops_by) l_drops_by c_drops_by k_drops_by
  have b_drops_by := F_drops_by.binds (ps := ["rate", "ticks"]) fun _ _ _ _ _ _ us hl => match us, hl with | [_, _], _ => rfl
  have F_check_part := fun_mk (st := s_check_part) l_check_part c_check_part k_check_part
  have b_check_part := F_check_part.binds (ps := ["ticks", "least", "part"]) fun _ _ _ _ _ _ us hl => match us, hl with | [_, _, _], _ => rfl
  have F_check_day := fun_mk (st := s_check_day) l_check_day c_check_day k_check_day
  have b_check_day := F_check_day.binds (ps := ["ticks", "parts"]) fun _ _ _ _ _ _ us hl => match us, hl with | [_, _], _ => rfl
  have F_drops_within := fun_mk (st := s_drops_within) l_drops_within c_drops_within k_drops_within
  have b_drops_within := F_drops_within.binds (ps := ["part", "tick"]) fun _ _ _ _ _ _ us hl => match us, hl with | [_, _], _ => rfl
  have F_sums_ahead := fun_mk (st := s_sums_ahead) l_sums_ahead c_sums_ahead k_sums_ahead
  have b_sums_ahead := F_sums_ahead.binds (ps := ["ticks", "parts"]) fun _ _ _ _ _ _ us hl => match us, hl with | [_, _], _ => rfl
  have F_checked_rules := fun_mk (st := s_checked_rules) l_checked_rules c_checked_rules k_checked_rules
  have b_checked_rules := F_checked_rules.binds (ps := ["rules"]) fun _ _ _ _ _ _ us hl => match us, hl with | [_], _ => rfl
  have F_longest_window := fun_mk (st := s_longest_window) l_longest_window c_longest_window k_longest_window
  have b_longest_window := F_longest_window.binds (ps := ["rules"]) fun _ _ _ _ _ _ us hl => match us, hl with | [_], _ => rfl
  have F_counts := fun_mk (st := s_counts) l_counts c_counts k_counts
  have b_counts := F_counts.binds (ps := ["pump"]) fun _ _ _ _ _ _ us hl => match us, hl with | [_], _ => rfl
  have F_set_counts := fun_mk (st := s_set_counts) l_set_counts c_set_counts k_set_counts
  have b_set_counts := F_set_counts.binds (ps := ["pump", "numbers", "sent"]) fun _ _ _ _ _ _ us hl => match us, hl with | [_, _, _], _ => rfl
  have F_line_of := fun_mk (st := s_line_of) l_line_of c_line_of k_line_of
  have b_line_of := F_line_of.binds (ps := ["word", "numbers"]) fun _ _ _ _ _ _ us hl => match us, hl with | [_, _], _ => rfl
  have F_saved := fun_mk (st := s_saved) l_saved c_saved k_saved
  have b_saved := F_saved.binds (ps := ["pump"]) fun _ _ _ _ _ _ us hl => match us, hl with | [_], _ => rfl
  have F_is_number := fun_mk (st := s_is_number) l_is_number c_is_number k_is_number
  have b_is_number := F_is_number.binds (ps := ["text"]) fun _ _ _ _ _ _ us hl => match us, hl with | [_], _ => rfl
  have F_numbers_of := fun_mk (st := s_numbers_of) l_numbers_of c_numbers_of k_numbers_of
  have b_numbers_of := F_numbers_of.binds (ps := ["word", "line"]) fun _ _ _ _ _ _ us hl => match us, hl with | [_, _], _ => rfl
  have F_fits := fun_mk (st := s_fits) l_fits c_fits k_fits
  have b_fits := F_fits.binds (ps := ["word", "numbers", "longest"]) fun _ _ _ _ _ _ us hl => match us, hl with | [_, _, _], _ => rfl
  have F_rows_of := fun_mk (st := s_rows_of) l_rows_of c_rows_of k_rows_of
  have b_rows_of := F_rows_of.binds (ps := ["lines", "longest"]) fun _ _ _ _ _ _ us hl => match us, hl with | [_, _], _ => rfl
  have F_loaded := fun_mk (st := s_loaded) l_loaded c_loaded k_loaded
  have b_loaded := F_loaded.binds (ps := ["lines", "day", "rules", "lock", "dose", "hold"]) fun _ _ _ _ _ _ us hl => match us, hl with | [_, _, _, _, _, _], _ => rfl
  have F_Lcell := fun_mk (st := s_Lcell) l_Lcell c_Lcell k_Lcell
  have b_Lcell := F_Lcell.binds (ps := ["_law_script", "_law_k"]) fun _ _ _ _ _ _ us hl => match us, hl with | [_, _], _ => rfl
  have F_Lmix := fun_mk (st := s_Lmix) l_Lmix c_Lmix k_Lmix
  have b_Lmix := F_Lmix.binds (ps := ["_law_script", "_law_k"]) fun _ _ _ _ _ _ us hl => match us, hl with | [_, _], _ => rfl
  have F_Lwhole := fun_mk (st := s_Lwhole) l_Lwhole c_Lwhole k_Lwhole
  have b_Lwhole := F_Lwhole.binds (ps := ["_law_found"]) fun _ _ _ _ _ _ us hl => match us, hl with | [_], _ => rfl
  have F_Lwords := fun_mk (st := s_Lwords) l_Lwords c_Lwords k_Lwords
  have b_Lwords := F_Lwords.binds (ps := []) fun _ _ _ _ _ _ us hl => match us, hl with | [], _ => rfl
  have F_Ldrawn := fun_mk (st := s_Ldrawn) l_Ldrawn c_Ldrawn k_Ldrawn
  have b_Ldrawn := F_Ldrawn.binds (ps := ["_law_script"]) fun _ _ _ _ _ _ us hl => match us, hl with | [_], _ => rfl
  have F_Lchanged := fun_mk (st := s_Lchanged) l_Lchanged c_Lchanged k_Lchanged
  have b_Lchanged := F_Lchanged.binds (ps := ["_law_script", "_law_k", "_law_lines"]) fun _ _ _ _ _ _ us hl => match us, hl with | [_, _, _], _ => rfl
  have F_Lnumber := fun_mk (st := s_Lnumber) l_Lnumber c_Lnumber k_Lnumber
  have b_Lnumber := F_Lnumber.binds (ps := ["_law_word"]) fun _ _ _ _ _ _ us hl => match us, hl with | [_], _ => rfl
  have F_Ldue := fun_mk (st := s_Ldue) l_Ldue c_Ldue k_Ldue
  have b_Ldue := F_Ldue.binds (ps := ["_law_lines", "_law_longest"]) fun _ _ _ _ _ _ us hl => match us, hl with | [_, _], _ => rfl
  have F_law := fun_mk (st := s_law) l_law c_law k_law
  have Z_len := PySem.W.mg_none_of X G z_len
  have Z_zip := PySem.W.mg_none_of X G z_zip
  have Z_tuple := PySem.W.mg_none_of X G z_tuple
  have Z_range := PySem.W.mg_none_of X G z_range
  have Z_max := PySem.W.mg_none_of X G z_max
  have Z_min := PySem.W.mg_none_of X G z_min
  have Z_isinstance := PySem.W.mg_none_of X G z_isinstance
  have Z_int := PySem.W.mg_none_of X G z_int
  have Z_bool := PySem.W.mg_none_of X G z_bool
  have Z_str := PySem.W.mg_none_of X G z_str
  have Z_list := PySem.W.mg_none_of X G z_list
  have Z_sum := PySem.W.mg_none_of X G z_sum
  have Z_all := PySem.W.mg_none_of X G z_all
  have Z_ValueError := PySem.W.mg_none_of X G z_ValueError
  have Z_enumerate := PySem.W.mg_none_of X G z_enumerate
  have Z_MOST_DROPS_rates : ∃ t, mg "MOST_DROPS_rates" = some (.int 1000000 t) := ⟨_, PySem.W.mg_of X G z_MOST_DROPS_rates⟩
  have Z_MOST_TICKS : ∃ t, mg "MOST_TICKS" = some (.int 1000000 t) := ⟨_, PySem.W.mg_of X G z_MOST_TICKS⟩
  have Z_MOST_DROPS_limits : ∃ t, mg "MOST_DROPS_limits" = some (.int 1000000 t) := ⟨_, PySem.W.mg_of X G z_MOST_DROPS_limits⟩
  have Z_MOST_RULES : ∃ t, mg "MOST_RULES" = some (.int 4 t) := ⟨_, PySem.W.mg_of X G z_MOST_RULES⟩
  have Z_LONGEST_WINDOW : ∃ t, mg "LONGEST_WINDOW" = some (.int 1000 t) := ⟨_, PySem.W.mg_of X G z_LONGEST_WINDOW⟩
  have Z_MOST : ∃ t, mg "MOST" = some (.int 1000000 t) := ⟨_, PySem.W.mg_of X G z_MOST⟩
  have Z_MOST_FIGURES : ∃ t, mg "MOST_FIGURES" = some (.int 15 t) := ⟨_, PySem.W.mg_of X G z_MOST_FIGURES⟩
  have Z_FIGURES : ∃ t, mg "FIGURES" = some (.str "0123456789" t) := ⟨_, PySem.W.mg_of X G z_FIGURES⟩
  refine ⟨PySem.W.fnOf "law" "law" (defArgs s_law) (defBody s_law) (defScope s_law) .none kV_law dc_law pm_law an_law cd_law ct_law, fun s v => .of_eq rfl, fun base _ _ => ?_⟩
  have ZL : ZL mg := ⟨Z_len, Z_range, Z_max, Z_isinstance, Z_int, Z_bool, Z_str, Z_list, Z_tuple, Z_sum, Z_all⟩
  have ZC : ZC mg := ⟨Z_MOST_DROPS_rates, Z_MOST_TICKS, Z_len, Z_zip, Z_tuple⟩
  have ZR : ZR K mg := ⟨Z_MOST_RULES, Z_LONGEST_WINDOW, Z_MOST_DROPS_limits, Z_MOST, Z_len, Z_list, Z_max, Z_min, Z_sum⟩
  have ZB : ZCB K mg C_BadSetting := ⟨x_BadSetting, PySem.W.mg_of X G a_BadSetting⟩
  have ZD : ZD K mg C_BadSetting := ⟨ZB, ZC⟩
  have TD : TD K C_Day := ⟨cl_Day, n_Day_ticks, n_Day_parts, n_Day_sums⟩
  have TP : TP K C_Pump := ⟨cl_Pump, n_Pump_day, n_Pump_rules, n_Pump_lock, n_Pump_dose, n_Pump_hold, n_Pump_now, n_Pump_running, n_Pump_content, n_Pump_waiting, n_Pump_asked, n_Pump_missed, n_Pump_total, n_Pump_free, n_Pump_sent⟩
  have Z31 : Z31 K mg C_DoseError C_BadSetting C_Locked C_NotThere C_BadSave := ⟨ZL, Z_ValueError, PySem.W.mg_of X G a_DoseError, PySem.W.mg_of X G a_BadSetting, PySem.W.mg_of X G a_Locked, PySem.W.mg_of X G a_NotThere, PySem.W.mg_of X G a_BadSave, t_DoseError,
    M_BadSetting, M_BadSave, E_BadSetting, E_BadSave, hd_BadSave, n_BadSave_line, kit_bb, kit_bm, kit_ss, kit_sv, kit_sb⟩
  have XI : ExcI K C_BadSave f_BadSave_init := ⟨fun X => excI_of l_BadSave m_BadSave q_BadSave d_BadSave X (tail_of_exc x_BadSetting l_BadSetting m_BadSetting X), a_BadSave_init, beq_iff_eq.mp i_BadSave_init, kc_BadSave⟩
  have XA : ExcA K C_BadSave := ⟨sa_BadSave, excS_of l_BadSave m_BadSave g_BadSave⟩
  have ZS : ZBS K mg C_BadSave f_BadSave_init := ⟨XI, XA, n_BadSave_line, t_BadSave, PySem.W.mg_of X G a_BadSave⟩
  have O1 : Fn l.prog w K mg base (CXE l.prog w) 1 "check_between" ["what", "number", "least", "most"] (spCB C_BadSetting) f_check_between _ := ⟨ok_check_between F_check_between ZB, PySem.W.mg_of X G a_check_between, k_check_between, b_check_between⟩
  have O2 : Fn l.prog w K mg base CX0 1 "drops_by" ["rate", "ticks"] (spBy K) f_drops_by _ := ⟨ok_drops_by F_drops_by, PySem.W.mg_of X G a_drops_by, k_drops_by, b_drops_by⟩
  have O4 : Fn l.prog w K mg base (CXE l.prog w) 2 "check_part" ["ticks", "least", "part"] (spCP K C_BadSetting) f_check_part _ := ⟨ok_check_part F_check_part ZC O1, PySem.W.mg_of X G a_check_part, k_check_part, b_check_part⟩
  have O5 : Fn l.prog w K mg base (CXE l.prog w) 3 "check_day" ["ticks", "parts"] (spCD K C_BadSetting) f_check_day _ := ⟨ok_check_day F_check_day ZD O1 O4, PySem.W.mg_of X G a_check_day, k_check_day, b_check_day⟩
  have O6 : Fn l.prog w K mg base CX0 2 "drops_within" ["part", "tick"] (spDW K) f_drops_within _ := ⟨ok_drops_within F_drops_within O2, PySem.W.mg_of X G a_drops_within, k_drops_within, b_drops_within⟩
  have O7 : Fn l.prog w K mg base CX0 3 "sums_ahead" ["ticks", "parts"] (spSA K) f_sums_ahead _ := ⟨ok_sums_ahead F_sums_ahead ZC O6, PySem.W.mg_of X G a_sums_ahead, k_sums_ahead, b_sums_ahead⟩
  have OD : Mc l.prog w K mg base (CXE l.prog w) 4 "Day" C_Day ["self", "ticks", "parts"] (spDayI K C_Day C_BadSetting) f_Day_init _ := ⟨ok_Day_init F_Day_init TD ZC O5 O7, PySem.W.mg_of X G a_Day, ⟨mk_Day, a_Day_init, i_Day_init, kc_Day⟩, b_Day_init⟩
  have R1 : Fn l.prog w K mg base (CXE l.prog w) 2 "checked_rules" ["rules"] (spCR K C_BadSetting) f_checked_rules _ := ⟨ok_checked_rules F_checked_rules ZR O1, PySem.W.mg_of X G a_checked_rules, k_checked_rules, b_checked_rules⟩
  have R2 : Fn l.prog w K mg base CX0 1 "longest_window" ["rules"] (spLW K) f_longest_window _ := ⟨ok_longest_window F_longest_window ZR, PySem.W.mg_of X G a_longest_window, k_longest_window, b_longest_window⟩
  have OP : Mc l.prog w K mg base (CXE l.prog w) 3 "Pump" C_Pump ["self", "day", "rules", "lock", "dose", "hold"] (spPumpI K C_Pump C_Day C_BadSetting) f_Pump_init _ := ⟨ok_Pump_init F_Pump_init TP ZR O1 R1, PySem.W.mg_of X G a_Pump, ⟨mk_Pump, a_Pump_init, i_Pump_init, kc_Pump⟩, b_Pump_init⟩
  have P1 : Fn l.prog w K mg base CX0 1 "_law_cell" ["_law_script", "_law_k"] (spCell K) f_Lcell _ := ⟨ok_Lcell F_Lcell ZL, PySem.W.mg_of X G a_Lcell, k_Lcell, b_Lcell⟩
  have P2 : Fn l.prog w K mg base CX0 2 "_law_mix" ["_law_script", "_law_k"] (spMix K) f_Lmix _ := ⟨ok_Lmix F_Lmix P1, PySem.W.mg_of X G a_Lmix, k_Lmix, b_Lmix⟩
  have P3 : Fn l.prog w K mg base CX0 1 "_law_whole" ["_law_found"] spWhole f_Lwhole _ := ⟨ok_Lwhole F_Lwhole ZL kit_ib, PySem.W.mg_of X G a_Lwhole, k_Lwhole, b_Lwhole⟩
  have szW : its_WORDS.size ≤ sizeLine := by
    have h := v_WORDS.length
    rw [List.length_map] at h
    rw [show its_WORDS.size = its_WORDS.toList.length by simp, ← h, sizeLine_eq]
    decide
  have ZT : ZT K mg A_WORDS := ⟨Z_str, Z_zip, Z_all, Z_len, Z_int, Z_list, Z_enumerate, Z_FIGURES, Z_MOST_FIGURES, PySem.W.mg_of X G a_WORDS, fun H => .inr ⟨_, its_WORDS, nn_WORDS, l_WORDS, rfl, rfl, szW, v_WORDS⟩⟩
  have S1 : Fn l.prog w K mg base CX0 1 "counts" ["pump"] (spCounts K C_Pump C_Day) f_counts _ := ⟨ok_counts F_counts TP, PySem.W.mg_of X G a_counts, k_counts, b_counts⟩
  have S2 : Fn l.prog w K mg base CX0 1 "line_of" ["word", "numbers"] (spLine K) f_line_of _ := ⟨ok_line_of F_line_of ZT, PySem.W.mg_of X G a_line_of, k_line_of, b_line_of⟩
  have S3 : Fn l.prog w K mg base CX0 2 "saved" ["pump"] (spSaved K C_Pump C_Day) f_saved _ := ⟨ok_saved F_saved TP ZT S1 S2, PySem.W.mg_of X G a_saved, k_saved, b_saved⟩
  have BI : BSI l.prog w K mg base C_BadSave f_BadSave_init _ := ⟨ok_BadSave_init F_BadSave_init ZS, b_BadSave_init⟩
  have S4 : Fn l.prog w K mg base CX0 1 "is_number" ["text"] spIsN f_is_number _ := ⟨ok_is_number F_is_number ZT, PySem.W.mg_of X G a_is_number, k_is_number, b_is_number⟩
  have S5 : Fn l.prog w K mg base CX0 2 "numbers_of" ["word", "line"] (spNumsA K) f_numbers_of _ := ⟨ok_numbers_of F_numbers_of ZT S4, PySem.W.mg_of X G a_numbers_of, k_numbers_of, b_numbers_of⟩
  have S6 : Fn l.prog w K mg base CX0 1 "fits" ["word", "numbers", "longest"] (spFitsA K) f_fits _ := ⟨ok_fits F_fits ZT, PySem.W.mg_of X G a_fits, k_fits, b_fits⟩
  have S7 : Fn l.prog w K mg base (CXE l.prog w) 3 "rows_of" ["lines", "longest"] (spRowsA K C_BadSave) f_rows_of _ := ⟨ok_rows_of F_rows_of ZT ZS S5 S6 BI, PySem.W.mg_of X G a_rows_of, k_rows_of, b_rows_of⟩
  have S8 : Fn l.prog w K mg base CX0 1 "set_counts" ["pump", "numbers", "sent"] (spSetC K C_Pump C_Day) f_set_counts _ := ⟨ok_set_counts F_set_counts TP ZT, PySem.W.mg_of X G a_set_counts, k_set_counts, b_set_counts⟩
  have S9 : Fn l.prog w K mg base (CXE l.prog w) 5 "loaded" ["lines", "day", "rules", "lock", "dose", "hold"] (spLoadA K C_Pump C_Day C_BadSetting C_BadSave) f_loaded _ := ⟨ok_loaded F_loaded TP ZT OP R2 S7 S8, PySem.W.mg_of X G a_loaded, k_loaded, b_loaded⟩
  have W1 : Fn l.prog w K mg base CX0 1 "_law_words" [] spWords f_Lwords _ := ⟨ok_Lwords F_Lwords, PySem.W.mg_of X G a_Lwords, k_Lwords, b_Lwords⟩
  have W2 : Fn l.prog w K mg base CX0 3 "_law_drawn" ["_law_script"] (spDrawn K) f_Ldrawn _ := ⟨ok_Ldrawn F_Ldrawn ZL P2 W1, PySem.W.mg_of X G a_Ldrawn, k_Ldrawn, b_Ldrawn⟩
  have W3 : Fn l.prog w K mg base CX0 3 "_law_changed" ["_law_script", "_law_k", "_law_lines"] (spChg K) f_Lchanged _ := ⟨ok_Lchanged F_Lchanged ZL P2, PySem.W.mg_of X G a_Lchanged, k_Lchanged, b_Lchanged⟩
  have W4 : Fn l.prog w K mg base CX0 1 "_law_number" ["_law_word"] spNumL f_Lnumber _ := ⟨ok_Lnumber F_Lnumber ZL, PySem.W.mg_of X G a_Lnumber, k_Lnumber, b_Lnumber⟩
  have W5 : Fn l.prog w K mg base CX0 2 "_law_due" ["_law_lines", "_law_longest"] spDueL f_Ldue _ := ⟨ok_Ldue F_Ldue ZL W1 W4, PySem.W.mg_of X G a_Ldue, k_Ldue, b_Ldue⟩
  exact ok_law31 F_law Z31 P2 W2 W3 S9 OD W5 P3 S3
theorem walk {l : PySem.W.OpenLaw} {q : Program} {loose : List Str} {XP : (Str → Option Value) → Heap → Prop} {YP : World → Heap → Prop} {d : DefRec} {K : Params → PySem.W.Frag} (hn : l.most = some 63) (hdf : d.params.defaults = [])
    (hY : ∀ (w : World) (h : Heap), YP w h → (K w.params).In h)
    (F : ∀ (w : World) (mg : Str → Option Value) (fa : Addr) (h : Heap), (K w.params).In h → h.Ns mainGlobals mg → mg d.name = some (.ref fa) →
      ∃ fd : FuncData, (∀ (s : Shared) (u : Value), BindsTo s fd ⟨[u], []⟩ [("_law_script", u)]) ∧ ∀ base : Heap, (K w.params).In base → base.Ns mainGlobals mg → FnOk l.prog w (K w.params) mg base CX0 6 fa fd ["_law_script"] (spLaw (K w.params))) :
    PySem.W.WalkO q loose XP YP l.row.toRowW d [] (fun f vs => PySem.call f vs) :=
  L2.walk_of (n := 63) (k := 6) (x := "_law_script") (CX := fun _ => CX0) (sp := fun w => spLaw (K w.params)) hn (by decide) hdf ⟨rfl, by decide, by decide⟩ hY F (fun _ _ a ns hl _ hS => ⟨a, ns, rfl, hS, hl, fun _ => rfl⟩) fun _ _ _ _ _ z => z
end Sp
open PySem PySem.W PyProof.Rows
theorem PySem.W.Fast.te4424711595081646980 : True := trivial
theorem PySem.W.Fast.te6723120780542734247 : True := trivial
set_option maxRecDepth 100000 in
set_option maxHeartbeats 0 in
theorem PySem.Challenge.cw_stilldose_k31_bad_saves_holds : PySem.Challenge.rw_stilldose_k31_bad_saves.Holds := by
  w_on; o_law; k_head; (case hw => w_witness2)
  k_fill
  refine Sp.walk (l := PySem.Challenge.rw_stilldose_k31_bad_saves) rfl rfl (fun w h Y => PySem.W.kIn_of Y) ?F
  case F =>
    intro w mg fa h KX G hmg
    refine' Sp.all_mk KX G hmg ?a_DoseError ?a_BadSetting ?a_Locked ?a_NotThere ?a_BadSave ?x_BadSetting ?t_BadSetting ?u_BadSetting ?eg_BadSetting ?eh_BadSetting ?eb_BadSetting ?eo_BadSetting ?ec_BadSetting ?t_DoseError ?cg ?ct ?a_Day ?pg_Day ?hd_Day ?po_Day ?sa_Day ?mk_Day ?kc_Day ?n_Day_ticks ?n_Day_parts ?n_Day_sums ?a_Day_init ?i_Day_init ?l_Day_init ?c_Day_init ?k_Day_init ?a_Pump ?pg_Pump ?hd_Pump ?po_Pump ?sa_Pump ?mk_Pump ?kc_Pump ?n_Pump_day ?n_Pump_rules ?n_Pump_lock ?n_Pump_dose ?n_Pump_hold ?n_Pump_now ?n_Pump_running ?n_Pump_content ?n_Pump_waiting ?n_Pump_asked ?n_Pump_missed ?n_Pump_total ?n_Pump_free ?n_Pump_sent ?a_Pump_init ?i_Pump_init ?l_Pump_init ?c_Pump_init ?k_Pump_init ?l_BadSave ?m_BadSave ?l_BadSetting ?m_BadSetting ?q_BadSave ?d_BadSave ?g_BadSave ?hd_BadSave ?sa_BadSave ?kc_BadSave ?n_BadSave_line ?t_BadSave ?u_BadSave ?eg_BadSave ?eh_BadSave ?eb_BadSave ?eo_BadSave ?ec_BadSave ?a_BadSave_init ?i_BadSave_init ?l_BadSave_init ?c_BadSave_init ?k_BadSave_init ?a_check_between ?l_check_between ?c_check_between ?k_check_between ?a_drops_by ?l_drops_by ?c_drops_by ?k_drops_by ?a_check_part ?l_check_part ?c_check_part ?k_check_part ?a_check_day ?l_check_day ?c_check_day ?k_check_day ?a_drops_within ?l_drops_within ?c_drops_within ?k_drops_within ?a_sums_ahead ?l_sums_ahead ?c_sums_ahead ?k_sums_ahead ?a_checked_rules ?l_checked_rules ?c_checked_rules ?k_checked_rules ?a_longest_window ?l_longest_window ?c_longest_window ?k_longest_window ?a_counts ?l_counts ?c_counts ?k_counts ?a_set_counts ?l_set_counts ?c_set_counts ?k_set_counts ?a_line_of ?l_line_of ?c_line_of ?k_line_of ?a_saved ?l_saved ?c_saved ?k_saved ?a_is_number ?l_is_number ?c_is_number ?k_is_number ?a_numbers_of ?l_numbers_of ?c_numbers_of ?k_numbers_of ?a_fits ?l_fits ?c_fits ?k_fits ?a_rows_of ?l_rows_of ?c_rows_of ?k_rows_of ?a_loaded ?l_loaded ?c_loaded ?k_loaded ?a_Lcell ?l_Lcell ?c_Lcell ?k_Lcell ?a_Lmix ?l_Lmix ?c_Lmix ?k_Lmix ?a_Lwhole ?l_Lwhole ?c_Lwhole ?k_Lwhole ?a_Lwords ?l_Lwords ?c_Lwords ?k_Lwords ?a_Ldrawn ?l_Ldrawn ?c_Ldrawn ?k_Ldrawn ?a_Lchanged ?l_Lchanged ?c_Lchanged ?k_Lchanged ?a_Lnumber ?l_Lnumber ?c_Lnumber ?k_Lnumber ?a_Ldue ?l_Ldue ?c_Ldue ?k_Ldue ?a_law ?l_law ?c_law ?k_law ?z_len ?z_zip ?z_tuple ?z_range ?z_max ?z_min ?z_isinstance ?z_int ?z_bool ?z_str ?z_list ?z_sum ?z_all ?z_ValueError ?z_enumerate ?z_MOST_DROPS_rates ?z_MOST_TICKS ?z_MOST_DROPS_limits ?z_MOST_RULES ?z_LONGEST_WINDOW ?z_MOST ?z_MOST_FIGURES ?z_FIGURES ?a_WORDS ?l_WORDS ?v_WORDS ?kit_ib ?kit_bb ?kit_bm ?kit_ss ?kit_sv ?kit_sb
    (case a_DoseError => k_is)
    (case a_BadSetting => k_is)
    (case a_Locked => k_is)
    (case a_NotThere => k_is)
    (case a_BadSave => k_is)
    (case x_BadSetting => k_exc)
    (case t_BadSetting => kts_isx)
    (case u_BadSetting => k_is)
    (case eg_BadSetting => k_is)
    (case eh_BadSetting => k_is)
    (case eb_BadSetting => k_is)
    (case eo_BadSetting => k_is)
    (case ec_BadSetting => k_is)
    (case t_DoseError => kts_isx)
    (case cg => k_is)
    (case ct => k_is)
    (case a_Day => k_is)
    (case pg_Day => k_is)
    (case hd_Day => k_is)
    (case po_Day => k_is)
    (case sa_Day => k_is)
    (case mk_Day => k_is)
    (case kc_Day => k_is)
    (case n_Day_ticks => k_is)
    (case n_Day_parts => k_is)
    (case n_Day_sums => k_is)
    (case a_Day_init => k_is)
    (case i_Day_init => k_is)
    (case l_Day_init => k_is)
    (case c_Day_init => k_is)
    (case k_Day_init => k_is)
    (case a_Pump => k_is)
    (case pg_Pump => k_is)
    (case hd_Pump => k_is)
    (case po_Pump => k_is)
    (case sa_Pump => k_is)
    (case mk_Pump => k_is)
    (case kc_Pump => k_is)
    (case n_Pump_day => k_is)
    (case n_Pump_rules => k_is)
    (case n_Pump_lock => k_is)
    (case n_Pump_dose => k_is)
    (case n_Pump_hold => k_is)
    (case n_Pump_now => k_is)
    (case n_Pump_running => k_is)
    (case n_Pump_content => k_is)
    (case n_Pump_waiting => k_is)
    (case n_Pump_asked => k_is)
    (case n_Pump_missed => k_is)
    (case n_Pump_total => k_is)
    (case n_Pump_free => k_is)
    (case n_Pump_sent => k_is)
    (case a_Pump_init => k_is)
    (case i_Pump_init => k_is)
    (case l_Pump_init => k_is)
    (case c_Pump_init => k_is)
    (case k_Pump_init => k_is)
    (case l_BadSave => k_is)
    (case m_BadSave => rfl)
    (case l_BadSetting => k_is)
    (case m_BadSetting => rfl)
    (case q_BadSave => rfl)
    (case d_BadSave => rfl)
    (case g_BadSave => rfl)
    (case hd_BadSave => k_is)
    (case sa_BadSave => k_is)
    (case kc_BadSave => k_is)
    (case n_BadSave_line => k_is)
    (case t_BadSave => kts_isx)
    (case u_BadSave => k_is)
    (case eg_BadSave => k_is)
    (case eh_BadSave => k_is)
    (case eb_BadSave => k_is)
    (case eo_BadSave => k_is)
    (case ec_BadSave => k_is)
    (case a_BadSave_init => k_is)
    (case i_BadSave_init => k_is)
    (case l_BadSave_init => k_is)
    (case c_BadSave_init => k_is)
    (case k_BadSave_init => k_is)
    (case a_check_between => k_is)
    (case l_check_between => k_is)
    (case c_check_between => k_is)
    (case k_check_between => k_is)
    (case a_drops_by => k_is)
    (case l_drops_by => k_is)
    (case c_drops_by => k_is)
    (case k_drops_by => k_is)
    (case a_check_part => k_is)
    (case l_check_part => k_is)
    (case c_check_part => k_is)
    (case k_check_part => k_is)
    (case a_check_day => k_is)
    (case l_check_day => k_is)
    (case c_check_day => k_is)
    (case k_check_day => k_is)
    (case a_drops_within => k_is)
    (case l_drops_within => k_is)
    (case c_drops_within => k_is)
    (case k_drops_within => k_is)
    (case a_sums_ahead => k_is)
    (case l_sums_ahead => k_is)
    (case c_sums_ahead => k_is)
    (case k_sums_ahead => k_is)
    (case a_checked_rules => k_is)
    (case l_checked_rules => k_is)
    (case c_checked_rules => k_is)
    (case k_checked_rules => k_is)
    (case a_longest_window => k_is)
    (case l_longest_window => k_is)
    (case c_longest_window => k_is)
    (case k_longest_window => k_is)
    (case a_counts => k_is)
    (case l_counts => k_is)
    (case c_counts => k_is)
    (case k_counts => k_is)
    (case a_set_counts => k_is)
    (case l_set_counts => k_is)
    (case c_set_counts => k_is)
    (case k_set_counts => k_is)
    (case a_line_of => k_is)
    (case l_line_of => k_is)
    (case c_line_of => k_is)
    (case k_line_of => k_is)
    (case a_saved => k_is)
    (case l_saved => k_is)
    (case c_saved => k_is)
    (case k_saved => k_is)
    (case a_is_number => k_is)
    (case l_is_number => k_is)
    (case c_is_number => k_is)
    (case k_is_number => k_is)
    (case a_numbers_of => k_is)
    (case l_numbers_of => k_is)
    (case c_numbers_of => k_is)
    (case k_numbers_of => k_is)
    (case a_fits => k_is)
    (case l_fits => k_is)
    (case c_fits => k_is)
    (case k_fits => k_is)
    (case a_rows_of => k_is)
    (case l_rows_of => k_is)
    (case c_rows_of => k_is)
    (case k_rows_of => k_is)
    (case a_loaded => k_is)
    (case l_loaded => k_is)
    (case c_loaded => k_is)
    (case k_loaded => k_is)
    (case a_Lcell => k_is)
    (case l_Lcell => k_is)
    (case c_Lcell => k_is)
    (case k_Lcell => k_is)
    (case a_Lmix => k_is)
    (case l_Lmix => k_is)
    (case c_Lmix => k_is)
    (case k_Lmix => k_is)
    (case a_Lwhole => k_is)
    (case l_Lwhole => k_is)
    (case c_Lwhole => k_is)
    (case k_Lwhole => k_is)
    (case a_Lwords => k_is)
    (case l_Lwords => k_is)
    (case c_Lwords => k_is)
    (case k_Lwords => k_is)
    (case a_Ldrawn => k_is)
    (case l_Ldrawn => k_is)
    (case c_Ldrawn => k_is)
    (case k_Ldrawn => k_is)
    (case a_Lchanged => k_is)
    (case l_Lchanged => k_is)
    (case c_Lchanged => k_is)
    (case k_Lchanged => k_is)
    (case a_Lnumber => k_is)
    (case l_Lnumber => k_is)
    (case c_Lnumber => k_is)
    (case k_Lnumber => k_is)
    (case a_Ldue => k_is)
    (case l_Ldue => k_is)
    (case c_Ldue => k_is)
    (case k_Ldue => k_is)
    (case a_law => k_is)
    (case l_law => k_is)
    (case c_law => k_is)
    (case k_law => k_is)
    (case z_len => k_is)
    (case z_zip => k_is)
    (case z_tuple => k_is)
    (case z_range => k_is)
    (case z_max => k_is)
    (case z_min => k_is)
    (case z_isinstance => k_is)
    (case z_int => k_is)
    (case z_bool => k_is)
    (case z_str => k_is)
    (case z_list => k_is)
    (case z_sum => k_is)
    (case z_all => k_is)
    (case z_ValueError => k_is)
    (case z_enumerate => k_is)
    (case z_MOST_DROPS_rates => k_is)
    (case z_MOST_TICKS => k_is)
    (case z_MOST_DROPS_limits => k_is)
    (case z_MOST_RULES => k_is)
    (case z_LONGEST_WINDOW => k_is)
    (case z_MOST => k_is)
    (case z_MOST_FIGURES => k_is)
    (case z_FIGURES => k_is)
    (case a_WORDS => k_is)
    (case l_WORDS => k_is)
    (case v_WORDS => exact (.cons (by first | exact ⟨_, rfl⟩ | exact ⟨_, congrArg (Value.str · _) (by decide +kernel)⟩) (.cons (by first | exact ⟨_, rfl⟩ | exact ⟨_, congrArg (Value.str · _) (by decide +kernel)⟩) (.cons (by first | exact ⟨_, rfl⟩ | exact ⟨_, congrArg (Value.str · _) (by decide +kernel)⟩) (.cons (by first | exact ⟨_, rfl⟩ | exact ⟨_, congrArg (Value.str · _) (by decide +kernel)⟩) (.cons (by first | exact ⟨_, rfl⟩ | exact ⟨_, congrArg (Value.str · _) (by decide +kernel)⟩) (.cons (by first | exact ⟨_, rfl⟩ | exact ⟨_, congrArg (Value.str · _) (by decide +kernel)⟩) (.cons (by first | exact ⟨_, rfl⟩ | exact ⟨_, congrArg (Value.str · _) (by decide +kernel)⟩) (.cons (by first | exact ⟨_, rfl⟩ | exact ⟨_, congrArg (Value.str · _) (by decide +kernel)⟩) (.cons (by first | exact ⟨_, rfl⟩ | exact ⟨_, congrArg (Value.str · _) (by decide +kernel)⟩) .nil))))))))))
    (case kit_ib => kit_is)
    (case kit_bb => kit_is)
    (case kit_bm => kit_is)
    (case kit_ss => kit_is)
    (case kit_sv => kit_is)
    (case kit_sb => kit_is)
#print axioms PySem.Challenge.cw_stilldose_k31_bad_saves_holds
