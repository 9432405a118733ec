import PyProof.Rows.All
import Wide.All
import OpenK.AllK
import Wide.FinOn
import PyProof.EqAt
import PyProof.EqKinds
import PyProof.TupleCall
import KE.BitLaws
import Open.SpecLaws
import KE.OsHead
import KE.OsGo
import PySem.Challenge.RW_cupsalong_s01_answers
section
-- CHANGE: your row's module here, as the last of these rows
set_option Elab.async false
set_option linter.all false
set_option maxRecDepth 100000
/-! THE HAND LAYER, for ints, bools, texts, own classes, lists, tuples, dicts, comprehensions, walks over dicts, enumerate, zip, reversed, texts, calls, loops. Paste it whole ahead of your own text; what your proof does not reach may be deleted. -/
namespace L2
open PySem PySem.Spec PyProof.Rows

/-- a key: an int or a str -/
abbrev Key := Sum Int Str
def keyIs : Key → Value → Bool
  | .inl k, v => Value.isInt k v
  | .inr x, v => Value.isStrOf x v
def keyH (w : World) : Key → Int
  | .inl k => hashInt k
  | .inr x => hashStr w x
theorem keyIs_shape : ∀ {k : Key} {v : Value}, keyIs k v = true → (∃ i t, k = Sum.inl i ∧ v = Value.int i t) ∨ (∃ x t, k = Sum.inr x ∧ v = Value.str x t)
  | .inl i, v, h => by
    obtain ⟨t, e⟩ := Value.isInt_shape (k := i) (v := v) h
    exact .inl ⟨i, t, rfl, e⟩
  | .inr x, v, h => by
    obtain ⟨t, e⟩ := Value.isStrOf_shape (x := x) (v := v) h
    exact .inr ⟨x, t, rfl, e⟩
theorem keyIs_int (i : Int) (t : Tok) : keyIs (.inl i) (.int i t) = true := by simp [keyIs, Value.isInt]
theorem key_ll (a b : Int) : decide ((Sum.inl a : Key) = Sum.inl b) = (a == b) := by
  by_cases e : a = b
  · subst e; simp
  · have h : ¬ (Sum.inl a : Key) = Sum.inl b := fun q => e (Sum.inl.inj q)
    rw [decide_eq_false h]
    exact (beq_eq_false_iff_ne.mpr e).symm
theorem key_rr (a b : Str) : decide ((Sum.inr a : Key) = Sum.inr b) = decide (a = b) := by
  by_cases e : a = b
  · subst e; simp
  · have h : ¬ (Sum.inr a : Key) = Sum.inr b := fun q => e (Sum.inr.inj q)
    rw [decide_eq_false h, decide_eq_false e]
theorem key_lr (a : Int) (b : Str) : decide ((Sum.inl a : Key) = Sum.inr b) = false := decide_eq_false (fun q => nomatch q)
theorem key_rl (a : Str) (b : Int) : decide ((Sum.inr a : Key) = Sum.inl b) = false := decide_eq_false (fun q => nomatch q)

def mixKind (prog : Program) (w : World) : PySem.KeyKind prog w Key where
  is := keyIs
  hash := keyH w
  inj := fun v a b ha hb => by
    rcases keyIs_shape ha with ⟨i, t, rfl, rfl⟩ | ⟨x, t, rfl, rfl⟩
    · rcases keyIs_shape hb with ⟨j, u, rfl, e⟩ | ⟨y, u, rfl, e⟩
      · injection e with e1 _; rw [e1]
      · exact nomatch e
    · rcases keyIs_shape hb with ⟨j, u, rfl, e⟩ | ⟨y, u, rfl, e⟩
      · exact nomatch e
      · injection e with e1 _; rw [e1]
  byValue := fun k v h => by
    rcases keyIs_shape h with ⟨i, t, rfl, rfl⟩ | ⟨x, t, rfl, rfl⟩ <;> rfl
  pyHash := fun hv h => by
    rcases keyIs_shape hv with ⟨i, t, rfl, rfl⟩ | ⟨x, t, rfl, rfl⟩
    · exact wpAny_pyHash_int h
    · exact wpAny_pyHash_str h
  eqBool := fun hu hv h => by
    rcases keyIs_shape hu with ⟨i, t, rfl, rfl⟩ | ⟨x, t, rfl, rfl⟩
    · rcases keyIs_shape hv with ⟨j, u, rfl, rfl⟩ | ⟨y, u, rfl, rfl⟩
      · rw [key_ll] at h; exact wpAny_eqBool_int h
      · rw [key_lr] at h; exact SeqAt.EqAt.int_str i t y u _ _ _ _ h
    · rcases keyIs_shape hv with ⟨j, u, rfl, rfl⟩ | ⟨y, u, rfl, rfl⟩
      · rw [key_rl] at h; exact SeqAt.EqAt.str_int x t j u _ _ _ _ h
      · rw [key_rr] at h; exact wpAny_eqBool_str h
  «strs» := fun k x t v h => by
    rcases keyIs_shape h with ⟨i, u, rfl, e⟩ | ⟨y, u, rfl, e⟩
    · exact nomatch e
    · injection e with e1 _
      subst e1
      cases v <;> rfl

end L2

namespace L2
open PySem PySem.Spec PyProof.Rows

/-- a value, without the heap -/
inductive V where
  | non | bl (b : Bool) | int (i : Int) | str (x : Str) | byt (b : Array UInt8) | flt (b : UInt64) | ref (a : Addr) | ty (n : String)
  deriving DecidableEq

def RelV : V → Value → Prop
  | .non, u => u = Value.none
  | .bl b, u => u = Value.bool b
  | .int i, u => ∃ t, u = Value.int i t
  | .str x, u => ∃ t, u = Value.str x t
  | .byt b, u => ∃ t, u = Value.bytes b t
  | .flt b, u => ∃ t, u = Value.float b t
  | .ref a, u => u = Value.ref a
  | .ty n, u => u = Value.type n

abbrev Vals : List V → List Value → Prop := Paired RelV
theorem Vals.length {xs : List V} {us : List Value} (r : Vals xs us) : xs.length = us.length := Paired.length r
theorem Vals.get : ∀ {xs : List V} {us : List Value} {i : Nat} {x : V}, Vals xs us → xs[i]? = some x → ∃ u, us[i]? = some u ∧ RelV x u
  | _, _, _, _, .nil, e => by simp at e
  | _, _, 0, _, .cons r _, e => by simp at e; subst e; exact ⟨_, rfl, r⟩
  | _, _, i + 1, x, .cons _ t, e => by
    obtain ⟨u, h1, h2⟩ := Vals.get (i := i) (x := x) t (by simpa using e)
    exact ⟨u, by simpa using h1, h2⟩
theorem Vals.set {x : V} {u : Value} (r : RelV x u) : ∀ {xs : List V} {us : List Value} (i : Nat), Vals xs us → Vals (xs.set i x) (us.set i u)
  | _, _, _, .nil => .nil
  | _, _, 0, .cons _ t => .cons r t
  | _, _, i + 1, .cons q t => .cons q (Vals.set r i t)
theorem Vals.append : ∀ {xs ys : List V} {us ws : List Value}, Vals xs us → Vals ys ws → Vals (xs ++ ys) (us ++ ws)
  | _, _, _, _, .nil, s => s
  | _, _, _, _, .cons r t, s => .cons r (Vals.append t s)
theorem Vals.take : ∀ {xs : List V} {us : List Value} (n : Nat), Vals xs us → Vals (xs.take n) (us.take n)
  | _, _, 0, _ => .nil
  | _, _, _ + 1, .nil => .nil
  | _, _, n + 1, .cons r t => .cons r (Vals.take n t)
theorem Vals.drop : ∀ {xs : List V} {us : List Value} (n : Nat), Vals xs us → Vals (xs.drop n) (us.drop n)
  | _, _, 0, r => r
  | _, _, _ + 1, .nil => .nil
  | _, _, n + 1, .cons _ t => Vals.drop n t
theorem Vals.none_of : ∀ {xs : List V} {us : List Value} {i : Nat}, Vals xs us → xs[i]? = none → us[i]? = none := fun {xs us i} r e => by
  have h1 := r.length
  have h2 : xs.length ≤ i := List.getElem?_eq_none_iff.mp e
  exact List.getElem?_eq_none_iff.mpr (by omega)

def RelO : Option V → Option Value → Prop
  | some v, some u => RelV v u
  | none, none => True
  | _, _ => False
def KV {κ : Type} : List (κ × V) → List (κ × Value) → Prop := Paired fun (p : κ × V) (q : κ × Value) => p.1 = q.1 ∧ RelV p.2 q.2

/-- a key of a dict (00_mix): an int or a text -/
def kV : Key → V
  | .inl i => .int i
  | .inr x => .str x

/-- what stands at a tracked address -/
inductive HO where
  /-- a list -/
  | lst (xs : List V)
  /-- a tuple (never changes) -/
  | tup (xs : List V)
  /-- a dict whose keys are ints and texts; one whose keys are tuples of ints and texts (the empty one is both) -/
  | dK (kvs : List (Key × V)) | dT (kvs : List (List Key × V))
  /-- a set of ints: its members, its size -/
  | set (S : Int → Bool) (n : Nat)
  /-- an instance of the class at C, its dict at dx, its attributes -/
  | ins (C dx : Addr) (fs : List (Str × V))
  /-- the dict of the instance at x -/
  | own (x : Addr)
  /-- the dict of an exception -/
  | xd (fs : List (Str × V))
  /-- a bound method, f of x -/
  | met (f x : Addr)
  /-- a range object lo, lo + 1, .. below hi -/
  | rng (lo hi : Int)
  /-- a thing that is known to the object (the script; a dict while a loop walks it): read, never written while it is so -/
  | frz (o : Obj) (u : HO)
  /-- a code object's table -/
  | tbl (ps : Array Value)
  /-- any other thing, by what is true of its one object (a def of one's own: SetO a S n := HO.ext fun h => ..) -/
  | ext (φ : Heap → Prop)

abbrev Hp := Addr → Option HO
def upd (H : Hp) (a : Addr) (o : HO) : Hp := fun b => if b = a then some o else H b
theorem upd_same {H : Hp} {a : Addr} {o : HO} : upd H a o a = some o := by unfold upd; rw [if_pos rfl]
theorem upd_ne {H : Hp} {a b : Addr} {o : HO} (h : b ≠ a) : upd H a o b = H b := by unfold upd; rw [if_neg h]
theorem ne_of_none {H : Hp} {a b : Addr} {o : HO} (h : H a = some o) (h' : H b = none) : a ≠ b := by
  intro e; subst e; rw [h] at h'; cases h'

section
variable (P : Program) (w : World)
def ObjOk (H : Hp) (h : Heap) (a : Addr) : HO → Prop
  | .lst xs => xs.length ≤ sizeLine ∧ ∃ (its : List Value) (n : Nat), Vals xs its ∧ h.get? a = some { cls := .type "list", data := .seq its.toArray n }
  | .tup xs => xs.length ≤ sizeLine ∧ ∃ its : List Value, Vals xs its ∧ IsTup h a its.toArray
  | .dK kvs => kvs.length ≤ sizeLine ∧ (a == sysModules) = false ∧ ∃ vs, KV kvs vs ∧ h.DictOf (mixKind P w) a vs
  | .dT kvs => kvs.length ≤ sizeLine ∧ (a == sysModules) = false ∧ ∃ xs : List (List Key × Addr × Value),
      Paired (fun (p : List Key × V) (q : List Key × Addr × Value) => p.1 = q.1 ∧ H q.2.1 = some (.tup (p.1.map kV)) ∧ RelV p.2 q.2.2) kvs xs ∧
      ∃ o es ep, h.get? a = some o ∧ o.ExactDict ∧ o.data = .dict es ep ∧ es.toList = xs.map (entryOfKey (tupleKind (mixKind P w))) ∧ (xs.map (·.1)).Nodup
  | .set S n => h.SetOf (intKind P w) a S n
  | .ins C dx fs => H dx = some (.own a) ∧ fs.length ≤ 1000 ∧ dx ≠ a ∧ h.get? a = some (PySem.W.instObj C dx) ∧
      ∃ mA, h.Ns1 dx mA ∧ (∀ f, RelO (fs.lookup f) (mA f)) ∧ PySem.Within mA (fs.map (·.1))
  | .own _ => ∃ o, h.get? a = some o
  | .xd fs => ∃ mA, h.Ns1 a mA ∧ ∀ f, RelO (fs.lookup f) (mA f)
  | .rng lo hi => ∃ t u v, h.get? a = some { cls := .type "range", data := .fields #[.int lo t, .int hi u, .int 1 v] }
  | .frz o u => h.get? a = some o ∧ ObjOk H h a u
  | .tbl ps => h.get? a = some { cls := .none, data := .fields ps }
  | .met f x => h.get? a = some (PySem.W.methodObj (.ref f) (.ref x))
  | .ext φ => φ h ∧ (∃ o, h.get? a = some o) ∧ ∀ h1 h2 : Heap, φ h1 → (∀ o, h1.get? a = some o → h2.get? a = some o) → φ h2
/-- the abstract heap is held -/
def HOk (H : Hp) (h : Heap) : Prop := ∀ a o, H a = some o → ObjOk P w H h a o
end

section
variable {P : Program} {w : World} {H H' : Hp} {h h' : Heap} {a : Addr} {o : HO}
theorem ObjOk.lt (x : ObjOk P w H h a o) : a < h.objs.size := by
  cases o with
  | lst xs => obtain ⟨_, _, _, _, e⟩ := x; exact Heap.lt_size e
  | tup xs => obtain ⟨_, _, _, p⟩ := x; exact p.lt
  | dK kvs => obtain ⟨_, _, _, _, o, _, _, e, _⟩ := x; exact Heap.lt_size e
  | dT kvs => obtain ⟨_, _, _, _, o, _, _, e, _⟩ := x; exact Heap.lt_size e
  | set S n => obtain ⟨o, _, _, _, e, _⟩ := x; exact Heap.lt_size e
  | ins C dx fs => obtain ⟨_, _, _, e, _⟩ := x; exact Heap.lt_size e
  | own y => obtain ⟨_, e⟩ := x; exact Heap.lt_size e
  | xd fs => obtain ⟨_, ⟨_, _, _, e, _⟩, _⟩ := x; exact Heap.lt_size e
  | rng lo hi => obtain ⟨_, _, _, e⟩ := x; exact Heap.lt_size e
  | frz ob u => obtain ⟨e, _⟩ := x; exact Heap.lt_size e
  | tbl ps => exact Heap.lt_size (show h.get? a = some _ from x)
  | met f y => exact Heap.lt_size (show h.get? a = some _ from x)
  | ext φ => obtain ⟨_, ⟨_, e⟩, _⟩ := x; exact Heap.lt_size e
theorem Paired.mapP {α β : Type} {F G : α → β → Prop} : ∀ {l₁ : List α} {l₂ : List β}, Paired F l₁ l₂ → (∀ a b, F a b → G a b) → Paired G l₁ l₂
  | _, _, .nil, _ => .nil
  | _, _, .cons r t, f => .cons (f _ _ r) (Paired.mapP t f)
/-- what an object's description leans on: its own object, its own dict, the tuples -/
theorem ObjOk.stay (x : ObjOk P w H h a o) (k : ∀ b u, (b = a ∨ H b = some (.own a)) → h.get? b = some u → h'.get? b = some u)
    (ho : ∀ b, H b = some (.own a) → H' b = some (.own a)) (ht : ∀ b xs, H b = some (.tup xs) → H' b = some (.tup xs)) : ObjOk P w H' h' a o := by
  induction o with
  | lst xs => obtain ⟨z, its, n, r, e⟩ := x; exact ⟨z, its, n, r, k _ _ (.inl rfl) e⟩
  | tup xs => obtain ⟨z, its, r, ob, e, c⟩ := x; exact ⟨z, its, r, ob, k _ _ (.inl rfl) e, c⟩
  | dK kvs => obtain ⟨z, y, vs, r, ob, es, ep, e, c⟩ := x; exact ⟨z, y, vs, r, ob, es, ep, k _ _ (.inl rfl) e, c⟩
  | dT kvs =>
    obtain ⟨z, y, xs, r, ob, es, ep, e, c⟩ := x
    exact ⟨z, y, xs, Paired.mapP r fun p q z => ⟨z.1, ht _ _ z.2.1, z.2.2⟩, ob, es, ep, k _ _ (.inl rfl) e, c⟩
  | set S n => obtain ⟨ob, es, ep, t, e, c⟩ := x; exact ⟨ob, es, ep, t, k _ _ (.inl rfl) e, c⟩
  | ins C dx fs =>
    obtain ⟨d, z, ne, e, mA, ⟨od, es, ep, e2, c⟩, r⟩ := x
    exact ⟨ho _ d, z, ne, k _ _ (.inl rfl) e, mA, ⟨od, es, ep, k _ _ (.inr d) e2, c⟩, r⟩
  | own y => obtain ⟨ob, e⟩ := x; exact ⟨ob, k _ _ (.inl rfl) e⟩
  | xd fs => obtain ⟨mA, ⟨od, es, ep, e, c⟩, r⟩ := x; exact ⟨mA, ⟨od, es, ep, k _ _ (.inl rfl) e, c⟩, r⟩
  | rng lo hi => obtain ⟨t, u, v, e⟩ := x; exact ⟨t, u, v, k _ _ (.inl rfl) e⟩
  | frz ob u ih => obtain ⟨e, q⟩ := x; exact ⟨k _ _ (.inl rfl) e, ih q⟩
  | tbl ps =>
    have e : h.get? a = some { cls := .none, data := .fields ps } := x
    show h'.get? a = some { cls := .none, data := .fields ps }
    exact k a _ (.inl rfl) e
  | met f y =>
    have e : h.get? a = some (PySem.W.methodObj (.ref f) (.ref y)) := x
    show h'.get? a = some (PySem.W.methodObj (.ref f) (.ref y))
    exact k a _ (.inl rfl) e
  | ext φ => obtain ⟨p, ⟨o, e⟩, st⟩ := x; exact ⟨st _ _ p fun o q => k _ _ (.inl rfl) q, ⟨o, k _ _ (.inl rfl) e⟩, st⟩
theorem HOk.lt (x : HOk P w H h) (e : H a = some o) : a < h.objs.size := (x a o e).lt
theorem HOk.fresh (x : HOk P w H h) (e : h.objs.size ≤ a) : H a = none := by
  cases q : H a with
  | none => rfl
  | some u => exact absurd (Nat.lt_of_lt_of_le (x.lt q) e) (Nat.lt_irrefl _)
/-- every object of the heap is kept -/
theorem HOk.kept (x : HOk P w H h) (k : ∀ b u, h.get? b = some u → h'.get? b = some u) : HOk P w H h' := fun a o e =>
  (x a o e).stay (fun b u _ q => k b u q) (fun _ q => q) fun _ _ q => q
/-- a new object is laid and tracked -/
theorem HOk.laid (x : HOk P w H h) (k : ∀ b u, h.get? b = some u → h'.get? b = some u) (hp : h.objs.size ≤ a) (new : ObjOk P w (upd H a o) h' a o) : HOk P w (upd H a o) h' := fun b u e => by
  have hn := x.fresh hp
  by_cases hb : b = a
  · subst hb; rw [upd_same] at e; cases e; exact new
  · rw [upd_ne hb] at e
    exact (x b u e).stay (fun c v _ q => k c v q) (fun c q => by rw [upd_ne (ne_of_none q hn)]; exact q) fun c xs q => by rw [upd_ne (ne_of_none q hn)]; exact q
end

/-- what may be read as u: it is u, or a known u -/
def Rd (H : Hp) (a : Addr) (u : HO) : Prop := H a = some u ∨ ∃ o, H a = some (.frz o u)
theorem Rd.of {H : Hp} {a : Addr} {u : HO} (h : H a = some u) : Rd H a u := .inl h
theorem Rd.ok {P : Program} {w : World} {H : Hp} {h : Heap} {a : Addr} {u : HO} (r : Rd H a u) (x : HOk P w H h) : ObjOk P w H h a u := by
  rcases r with r | ⟨o, r⟩
  · exact x a u r
  · obtain ⟨_, q⟩ := x a _ r
    exact q
/-- what may be written -/
def Mut : Option HO → Prop
  | some (.lst _) => True
  | some (.dK _) => True
  | some (.dT _) => True
  | some (.set _ _) => True
  | some (.ins _ _ _) => True
  | some (.ext _) => True
  | _ => False
section
variable {P : Program} {w : World} {H : Hp} {h h' : Heap} {x e : Addr} {o' : HO}
/-- the object at e is changed: x itself, or the dict of the instance x -/
theorem HOk.write (ok : HOk P w H h) (mu : Mut (H x)) (he : e = x ∨ H e = some (.own x)) (k : ∀ b u, b ≠ e → h.get? b = some u → h'.get? b = some u) (heo : ∃ u, h'.get? e = some u)
    (new : ObjOk P w (upd H x o') h' x o') : HOk P w (upd H x o') h' := fun b u q => by
  have nown : ∀ c y, H c = some (.own y) → c ≠ x := fun c y r z => by subst z; rw [r] at mu; exact mu
  have ntup : ∀ c xs, H c = some (.tup xs) → c ≠ x := fun c xs r z => by subst z; rw [r] at mu; exact mu
  by_cases hb : b = x
  · subst hb; rw [upd_same] at q; cases q; exact new
  · rw [upd_ne hb] at q
    by_cases hbe : b = e
    · have q' : H b = some (.own x) := by
        rcases he with z | z
        · exact absurd (hbe.trans z) hb
        · rw [hbe]; exact z
      rw [q] at q'; cases q'
      obtain ⟨v, hv⟩ := heo
      exact ⟨v, by rw [hbe]; exact hv⟩
    · refine (ok b u q).stay (fun c v hc r => k c v ?_ r) (fun c r => by rw [upd_ne (nown c b r)]; exact r) fun c xs r => by rw [upd_ne (ntup c xs r)]; exact r
      rcases hc with rfl | hc
      · exact hbe
      · rintro rfl
        rcases he with z | z
        · exact nown c b hc z
        · rw [hc] at z; cases z; exact hb rfl
end

/-! ### kept unless tracked; of the frames at fs (the callers') the slots may change (an exception that passes writes there); of the records at ex (iterators) nothing is said -/
structure Un (fs ex : List Addr) (H H' : Hp) (h h' : Heap) : Prop where
  keep : ∀ b o, h.get? b = some o → H b = none → b ∉ fs → b ∉ ex → h'.get? b = some o
  slot : ∀ b o, h.get? b = some o → H b = none → b ∈ fs → b ∉ ex → ∃ sl, h'.get? b = some { o with slots := sl }
  free : ∀ b o, h.get? b = some o → H b = none → b ∉ ex → H' b = none
  there : ∀ b o, h.get? b = some o → b ∉ ex → ∃ o', h'.get? b = some o'
  tups : ∀ b xs, H b = some (.tup xs) → H' b = some (.tup xs)
  frzs : ∀ b o u, H b = some (.frz o u) → H' b = some (.frz o u)
  tbls : ∀ b ps, H b = some (.tbl ps) → ∃ more, H' b = some (.tbl (ps ++ more))
section
variable {fs fs' ex ex' : List Addr} {H H1 H2 : Hp} {h h1 h2 h' : Heap} {a x e : Addr} {o : HO}
theorem Un.any (u : Un fs ex H H1 h h1) {b : Addr} {ob : Obj} (q : h.get? b = some ob) (n : H b = none) (hx : b ∉ ex) : ∃ sl, h1.get? b = some { ob with slots := sl } := by
  by_cases hb : b ∈ fs
  · exact u.slot b ob q n hb hx
  · exact ⟨ob.slots, u.keep b ob q n hb hx⟩
theorem Un.trans (a : Un fs ex H H1 h h1) (b : Un fs ex H1 H2 h1 h2) : Un fs ex H H2 h h2 where
  keep := fun c ob q n hc hx => b.keep c ob (a.keep c ob q n hc hx) (a.free c ob q n hx) hc hx
  slot := fun c ob q n hc hx => by
    obtain ⟨sl, e1⟩ := a.slot c ob q n hc hx
    obtain ⟨sl', e2⟩ := b.slot c _ e1 (a.free c ob q n hx) hc hx
    exact ⟨sl', e2⟩
  free := fun c ob q n hx => by
    obtain ⟨o', e1⟩ := a.there c ob q hx
    exact b.free c o' e1 (a.free c ob q n hx) hx
  there := fun c ob q hx => by
    obtain ⟨o', e1⟩ := a.there c ob q hx
    exact b.there c o' e1 hx
  tups := fun c xs q => b.tups c xs (a.tups c xs q)
  frzs := fun c ob xs q => b.frzs c ob xs (a.frzs c ob xs q)
  tbls := fun c ps q => by
    obtain ⟨m1, e1⟩ := a.tbls c ps q
    obtain ⟨m2, e2⟩ := b.tbls c _ e1
    exact ⟨m1 ++ m2, by rw [e2, Array.append_assoc]⟩
theorem Un.kept (k : ∀ b u, h.get? b = some u → h'.get? b = some u) : Un fs ex H H h h' :=
  ⟨fun b ob q _ _ _ => k b ob q, fun b ob q _ _ _ => ⟨ob.slots, k b ob q⟩, fun _ _ _ n _ => n, fun b ob q _ => ⟨ob, k b ob q⟩, fun _ _ q => q, fun _ _ _ q => q, fun _ ps q => ⟨#[], by rw [q]; simp⟩⟩
theorem Un.refl : Un fs ex H H h h := Un.kept fun _ _ q => q
theorem Un.laid (k : ∀ b u, h.get? b = some u → h'.get? b = some u) (hp : h.objs.size ≤ a) (hn : H a = none) : Un fs ex H (upd H a o) h h' where
  keep := fun b u q _ _ _ => k b u q
  slot := fun b u q _ _ _ => ⟨u.slots, k b u q⟩
  free := fun b u q n _ => by rw [upd_ne (Nat.ne_of_lt (Nat.lt_of_lt_of_le (Heap.lt_size q) hp))]; exact n
  there := fun b u q _ => ⟨u, k b u q⟩
  tups := fun b xs q => by rw [upd_ne (ne_of_none q hn)]; exact q
  frzs := fun b u xs q => by rw [upd_ne (ne_of_none q hn)]; exact q
  tbls := fun b ps q => ⟨#[], by rw [upd_ne (ne_of_none q hn), q]; simp⟩
theorem Un.write (mu : Mut (H x)) (he : e = x ∨ H e = some (.own x)) (k : ∀ b u, b ≠ e → h.get? b = some u → h'.get? b = some u) (heo : ∃ u, h'.get? e = some u) : Un fs ex H (upd H x o) h h' := by
  have hx : ∀ b, H b = none → b ≠ x := fun b n z => by subst z; rw [n] at mu; exact mu
  have hb : ∀ b, H b = none → b ≠ e := fun b n z => by
    subst z
    rcases he with r | r
    · exact hx b n r
    · rw [n] at r; cases r
  have hm : ∀ b u, H b = some u → ¬ Mut (some u) → b ≠ x := fun b u q nm z => by subst z; rw [q] at mu; exact nm mu
  refine ⟨fun b u q n _ _ => k b u (hb b n) q, fun b u q n _ _ => ⟨u.slots, k b u (hb b n) q⟩, fun b u q n _ => by rw [upd_ne (hx b n)]; exact n, fun b u q _ => ?_,
    fun b xs q => by rw [upd_ne (hm b _ q fun z => z)]; exact q, fun b u xs q => by rw [upd_ne (hm b _ q fun z => z)]; exact q, fun b ps q => ⟨#[], by rw [upd_ne (hm b _ q fun z => z), q]; simp⟩⟩
  by_cases hbe : b = e
  · subst hbe; exact heo
  · exact ⟨u, k b u hbe q⟩
theorem Un.mono (u : Un fs ex H H1 h h1) (hs : ∀ b ∈ fs, b ∈ fs') (hx : ∀ b ∈ ex, b ∈ ex') : Un fs' ex' H H1 h h1 :=
  ⟨fun b ob q n hb he => u.keep b ob q n (fun z => hb (hs b z)) fun z => he (hx b z), fun _ _ q n _ he => u.any q n fun z => he (hx _ z), fun b ob q n he => u.free b ob q n fun z => he (hx b z), fun b ob q he => u.there b ob q fun z => he (hx b z), u.tups, u.frzs, u.tbls⟩
end

/-! ### the heap without what is tracked -/
def trk (h : Heap) (H : Hp) : List Addr := (List.range h.objs.size).filter fun a => (H a).isSome
def hidT (h : Heap) (H : Hp) : Heap := PySem.W.hideAll h (trk h H)
theorem hidT_size (h : Heap) (H : Hp) : (hidT h H).objs.size = h.objs.size := PySem.W.hideAll_size _ _
theorem hidT_get {h : Heap} {H : Hp} {b : Addr} {o : Obj} (e : h.get? b = some o) (n : H b = none) : (hidT h H).get? b = some o :=
  PySem.W.hideAll_get _ e fun hm => by
    have q : (H b).isSome = true := (List.mem_filter.mp hm).2
    rw [n] at q; simp at q
theorem of_hidT {h : Heap} {H : Hp} {b : Addr} {o : Obj} (e : (hidT h H).get? b = some o) : h.get? b = some o ∧ H b = none := by
  have e' : h.get? b = some o := PySem.W.of_hideAll (trk h H) e
  refine ⟨e', ?_⟩
  cases q : H b with
  | none => rfl
  | some x =>
    have hm : b ∈ trk h H := List.mem_filter.mpr ⟨List.mem_range.mpr (Heap.lt_size e'), by simp [q]⟩
    have z : (hidT h H).get? b = none := PySem.W.hideAll_none (trk h H) hm
    rw [z] at e; cases e

/-! ### OpenK's ledger, filled with every new object but one -/
def allNews (g h : Heap) (L : Addr) : List (Addr × Obj) := (List.range h.objs.size).filterMap fun a => if a = L ∨ (g.get? a).isSome = true then none else (h.get? a).map fun o => (a, o)
def rest (g h : Heap) (L d : Addr) : List (Addr × Obj) := (allNews g h L).filter fun p => decide (p.1 ≠ d)
end L2

namespace L2
open PySem PySem.Spec PyProof.Rows

/-- the module's facts, over the base: the heap at the law's entry without what is tracked there -/
structure Mod (K : PySem.W.Frag) (mg : Str → Option Value) (base : Heap) : Prop where
  kin : K.In base
  glob : base.Ns mainGlobals mg
  blt : ∃ mb, base.Ns builtinsNs mb ∧ ∀ x : Str, x ≠ "__name__" → mb x = bootBuiltins x
  nolimit : base.NoLimit

/-- the context: a def's body (or a comprehension's block) running. base: fixed through the whole law; s₀, H₀: the entry; outer: the frames whose slots others may change (a def's callers); stack: all frames that run;
   ex: iterators that were made ahead of the entry and are walked here (a comprehension's); fn: the names whose cells were made at the entry (a def: all; a comprehension's block: its own); calm: not within an except suite; pn: pins that every state bears; xe: what is wanted of an exception that leaves the code -/
structure Cx where
  prog : Program
  w : World
  K : PySem.W.Frag
  mg : Str → Option Value
  base : Heap
  A : Around
  N : List Str
  s_0 : Shared
  H_0 : Hp
  env : Env
  outer : List Env
  stack : List Env
  ex : List Addr
  fn : Str → Bool
  calm : Bool
  pn : List (Addr × Obj)
  xe : Value → Shared → Prop
/-- the callers' frames -/
def frs (l : List Env) : List Addr := l.filterMap (·.frame)
abbrev Cx.fs (X : Cx) : List Addr := frs X.outer

def Vis (sc : Scope) (x : Str) : Prop := sc.names.lookup x = some .local ∨ sc.names.lookup x = some .cell ∨ sc.names.lookup x = some .free
def Loc (sc : Scope) (x : Str) : Prop := sc.names.lookup x = some .local ∨ sc.names.lookup x = some .cell
def Look (env : Env) (h : Heap) (m : Str → Option Value) (x : Str) (u : Value) : Prop :=
  (env.kindOf x = some .local ∧ m x = some u) ∨ ((env.kindOf x = some .cell ∨ env.kindOf x = some .free) ∧ ∃ c, env.cells.lookup x = some c ∧ h.IsCell c (some u))

structure Cx.Ok (X : Cx) : Prop where
  mod : Mod X.K X.mg X.base
  kind : X.env.scope.kind = .function
  glob : X.env.globals = mainGlobals
  blt : X.env.builtins = builtinsNs
  above : X.s_0.heap.objs.size ≤ X.env.locals
  inj : ∀ x y c, X.env.cells.lookup x = some c → X.env.cells.lookup y = some c → x = y
  has : ∀ x, (X.env.kindOf x = some .cell ∨ X.env.kindOf x = some .free) → ∃ c, X.env.cells.lookup x = some c
  cab : ∀ x c, X.fn x = true → X.env.cells.lookup x = some c → X.s_0.heap.objs.size ≤ c
  hd : X.calm = true → X.A.handled = none
  frames : X.A.frames = some X.stack
  stk : X.stack = X.outer ∨ (X.stack = X.env :: X.outer ∧ X.env.frame = some X.env.locals)
  exf : ∀ b ∈ X.ex, b ≠ X.env.locals ∧ ∀ x c, X.env.cells.lookup x = some c → c ≠ b
  bs : ∀ b o, X.base.get? b = some o → X.s_0.heap.get? b = some o ∧ X.H_0 b = none
  bsz : X.base.objs.size ≤ X.s_0.heap.objs.size
  noex : ∀ b o, X.base.get? b = some o → b ∉ X.ex
  exfs : ∀ b ∈ X.ex, b ∉ X.fs
  funs : X.s_0.heap.FunFrames X.base X.outer
  frf : ∀ b ∈ X.fs, X.H_0 b = none

structure Inv (X : Cx) (pins : List (Addr × Obj)) (σ : List (Option V)) (H : Hp) (s : Shared) : Prop where
  ok : X.Ok
  os : s.os = X.s_0.os
  bare : AllBare s.gens
  base : Un X.fs X.ex X.H_0 H X.s_0.heap s.heap
  loc : ∃ m, s.heap.Ns X.env.locals m ∧ ∀ (i : Nat) (x : Str) (v : V), X.N[i]? = some x → σ[i]? = some (some v) → Vis X.env.scope x → ∃ u, RelV v u ∧ Look X.env s.heap m x u
  cell : ∀ x c, X.env.cells.lookup x = some c → ∃ v, s.heap.IsCell c v
  free : H X.env.locals = none
  freeC : ∀ x c, X.env.cells.lookup x = some c → H c = none
  pin : ∀ p ∈ X.pn ++ pins, s.heap.get? p.1 = some p.2 ∧ H p.1 = none ∧ p.1 ≠ X.env.locals ∧ p.1 ∉ X.fs ∧ ∀ v, p.2.data ≠ .cell v
  hok : HOk X.prog X.w H s.heap
  len : σ.length = X.N.length

section
variable {X : Cx} {pins : List (Addr × Obj)} {σ : List (Option V)} {H H' : Hp} {s : Shared} {h' : Heap}

theorem Cx.Ok.nofr (ok : X.Ok) {b : Addr} {o : Obj} (e : X.base.get? b = some o) : b ∉ X.fs := fun hb => by
  have := (ok.funs.mem hb).1
  rw [e] at this; cases this
theorem Inv.bs (I : Inv X pins σ H s) : ∀ b o, X.base.get? b = some o → s.heap.get? b = some o ∧ H b = none := fun b o e =>
  ⟨I.base.keep b o (I.ok.bs b o e).1 (I.ok.bs b o e).2 (I.ok.nofr e) (I.ok.noex b o e), I.base.free b o (I.ok.bs b o e).1 (I.ok.bs b o e).2 (I.ok.noex b o e)⟩
theorem Inv.bk (I : Inv X pins σ H s) : ∀ b o, X.base.get? b = some o → s.heap.get? b = some o := fun b o e => (I.bs b o e).1
theorem Inv.mod (I : Inv X pins σ H s) : Mod X.K X.mg X.base := I.ok.mod
theorem Inv.kIn (I : Inv X pins σ H s) : X.K.In s.heap := I.ok.mod.kin.keeps I.bk
theorem Inv.nolimit (I : Inv X pins σ H s) : s.heap.NoLimit := I.ok.mod.nolimit.keeps I.bk
theorem Inv.lt (I : Inv X pins σ H s) : X.env.locals < s.heap.objs.size := let ⟨_, hn, _⟩ := I.loc; hn.lt
theorem Inv.sz (I : Inv X pins σ H s) : X.s_0.heap.objs.size ≤ s.heap.objs.size := Nat.le_trans I.ok.above (Nat.le_of_lt I.lt)
theorem Inv.nofs (I : Inv X pins σ H s) {a : Addr} (h : s.heap.objs.size ≤ a) : a ∉ X.fs := fun hb => by
  obtain ⟨_, o, ho, _⟩ := I.ok.funs.mem hb
  exact absurd (Nat.lt_of_lt_of_le (Heap.lt_size ho) (Nat.le_trans I.sz h)) (Nat.lt_irrefl _)
theorem Inv.cne (I : Inv X pins σ H s) : ∀ x c, X.env.cells.lookup x = some c → c ≠ X.env.locals := fun x c e z => by
  obtain ⟨v, o, ho, hd⟩ := I.cell x c e
  obtain ⟨m, ⟨o', es, ep, ho', hd', _⟩, _⟩ := I.loc
  rw [z, ho'] at ho; cases ho; rw [hd'] at hd; cases hd
theorem Inv.funs (I : Inv X pins σ H s) : s.heap.FunFrames X.base X.outer := by
  have all : ∀ (l : List Env), (∀ b ∈ frs l, b ∈ X.fs) → X.s_0.heap.FunFrames X.base l → s.heap.FunFrames X.base l := by
    intro l
    induction l with
    | nil => intro _ _; trivial
    | cons env r ih =>
      intro hs hl
      obtain ⟨hk, ⟨L, o, hf, hn, ho, hd⟩, hr⟩ := hl
      have hL : L ∈ X.fs := hs L (by unfold frs; rw [List.filterMap_cons, hf]; exact List.mem_cons_self)
      obtain ⟨sl, e⟩ := I.base.slot L o ho (I.ok.frf L hL) hL fun z => I.ok.exfs L z hL
      exact ⟨hk, ⟨L, _, hf, hn, e, hd⟩, ih (fun b hb => hs b (by unfold frs; rw [List.filterMap_cons, hf]; exact List.mem_cons_of_mem _ hb)) hr⟩
  exact all X.outer (fun _ hb => hb) I.ok.funs

/-- the frames that run, for a call -/
theorem Inv.stack (I : Inv X pins σ H s) : s.heap.FunFrames X.base X.stack := by
  rcases I.ok.stk with e | ⟨e, hf⟩
  · rw [e]; exact I.funs
  · rw [e]
    obtain ⟨m, hn, _⟩ := I.loc
    refine .cons (by rw [I.ok.kind]; decide) hf hn ?_ I.funs
    exact Heap.get?_none_of_le (Nat.le_trans I.ok.bsz I.ok.above)
theorem Inv.stkSub (I : Inv X pins σ H s) : ∀ b ∈ frs X.stack, b ∈ X.env.locals :: X.fs := fun b hb => by
  rcases I.ok.stk with e | ⟨e, hf⟩
  · rw [e] at hb; exact List.mem_cons_of_mem _ hb
  · rw [e] at hb
    unfold frs at hb
    rw [List.filterMap_cons, hf] at hb
    exact hb
theorem Inv.stkFree (I : Inv X pins σ H s) : ∀ b ∈ frs X.stack, H b = none := fun b hb => by
  rcases List.mem_cons.mp (I.stkSub b hb) with e | hb
  · rw [e]; exact I.free
  · obtain ⟨_, o, ho, _⟩ := I.ok.funs.mem hb
    exact I.base.free b o ho (I.ok.frf b hb) fun z => I.ok.exfs b z hb

/-- THE STEP: the untracked objects but the frame and the records at ch are kept (the callers' frames up to slots), the frame's map is kept, the new abstract heap is held -/
theorem Inv.step {g' : Array GenState} {t' : Nat} {d' : Drawn} {ch : List Addr} (I : Inv X pins σ H s)
    (hch : ∀ b ∈ ch, (b ∈ X.ex ∨ X.s_0.heap.objs.size ≤ b) ∧ b ≠ X.env.locals ∧ (∀ x c, X.env.cells.lookup x = some c → c ≠ b) ∧ ∀ p ∈ X.pn ++ pins, p.1 ≠ b)
    (keep : ∀ b o, b ≠ X.env.locals → b ∉ X.fs → b ∉ ch → s.heap.get? b = some o → H b = none → h'.get? b = some o)
    (slot : ∀ b o, b ≠ X.env.locals → b ∈ X.fs → b ∉ ch → s.heap.get? b = some o → H b = none → ∃ sl, h'.get? b = some { o with slots := sl }) (free : ∀ b o, b ∉ ch → s.heap.get? b = some o → H b = none → H' b = none)
    (there : ∀ b o, b ∉ ch → s.heap.get? b = some o → ∃ o', h'.get? b = some o')
    (tups : ∀ b xs, H b = some (.tup xs) → H' b = some (.tup xs)) (frzs : ∀ b o u, H b = some (.frz o u) → H' b = some (.frz o u)) (tbls : ∀ b ps, H b = some (.tbl ps) → ∃ more, H' b = some (.tbl (ps ++ more)))
    (ns : ∀ m, s.heap.Ns X.env.locals m → h'.Ns X.env.locals m) (hok : HOk X.prog X.w H' h') (hg : AllBare g') :
    Inv X pins σ H' { s with heap := h', gens := g', drawn := d', toks := t' } := by
  have neL : ∀ b o, X.s_0.heap.get? b = some o → b ≠ X.env.locals := fun b o e => Nat.ne_of_lt (Nat.lt_of_lt_of_le (Heap.lt_size e) I.ok.above)
  have neC : ∀ b o, X.s_0.heap.get? b = some o → b ∉ X.ex → b ∉ ch := fun b o e hx hb => by
    rcases (hch b hb).1 with z | z
    · exact hx z
    · exact absurd (Nat.lt_of_lt_of_le (Heap.lt_size e) z) (Nat.lt_irrefl _)
  have cellK : ∀ x c, X.env.cells.lookup x = some c → ∀ v, s.heap.IsCell c v → h'.IsCell c v := fun x c e v ⟨o, ho, hd⟩ => by
    have nch : c ∉ ch := fun z => (hch c z).2.2.1 x c e rfl
    by_cases hc : c ∈ X.fs
    · obtain ⟨sl, q⟩ := slot c o (I.cne x c e) hc nch ho (I.freeC x c e)
      exact ⟨_, q, hd⟩
    · exact ⟨o, keep c o (I.cne x c e) hc nch ho (I.freeC x c e), hd⟩
  refine ⟨I.ok, I.os, hg, ⟨fun b o e n hb hx => ?_, fun b o e n hb hx => ?_, fun b o e n hx => ?_, fun b o e hx => ?_, fun b xs e => tups b xs (I.base.tups b xs e), fun b o xs e => frzs b o xs (I.base.frzs b o xs e), fun b ps e => ?_⟩, ?_, fun x c e => ?_, ?_, fun x c e => ?_, fun p hp => ?_, hok, I.len⟩
  · exact keep b o (neL b o e) hb (neC b o e hx) (I.base.keep b o e n hb hx) (I.base.free b o e n hx)
  · obtain ⟨sl, e1⟩ := I.base.slot b o e n hb hx
    obtain ⟨sl', e2⟩ := slot b _ (neL b o e) hb (neC b o e hx) e1 (I.base.free b o e n hx)
    exact ⟨sl', e2⟩
  · obtain ⟨o', e1⟩ := I.base.there b o e hx
    exact free b o' (neC b o e hx) e1 (I.base.free b o e n hx)
  · obtain ⟨o', e1⟩ := I.base.there b o e hx
    exact there b o' (neC b o e hx) e1
  · obtain ⟨m1, e1⟩ := I.base.tbls b ps e
    obtain ⟨m2, e2⟩ := tbls b _ e1
    exact ⟨m1 ++ m2, by rw [e2, Array.append_assoc]⟩
  · obtain ⟨m, hn, hl⟩ := I.loc
    refine ⟨m, ns m hn, fun i x v e1 e2 e3 => ?_⟩
    obtain ⟨u, r, l⟩ := hl i x v e1 e2 e3
    refine ⟨u, r, ?_⟩
    rcases l with l | ⟨k, c, e, z⟩
    · exact .inl l
    · exact .inr ⟨k, c, e, cellK x c e _ z⟩
  · obtain ⟨v, z⟩ := I.cell x c e
    exact ⟨v, cellK x c e v z⟩
  · obtain ⟨m, ⟨o, _, _, ho, _⟩, _⟩ := I.loc
    exact free _ o (fun z => (hch _ z).2.1 rfl) ho I.free
  · obtain ⟨v, o, ho, hd⟩ := I.cell x c e
    exact free c o (fun z => (hch c z).2.2.1 x c e rfl) ho (I.freeC x c e)
  · obtain ⟨e, n, ne, nf, d⟩ := I.pin p hp
    have nch : p.1 ∉ ch := fun z => (hch p.1 z).2.2.2 p hp rfl
    exact ⟨keep p.1 p.2 ne nf nch e n, free p.1 p.2 nch e n, ne, nf, d⟩
/-- .. where the frame's own object is kept too -/
theorem Inv.un {t' : Nat} (I : Inv X pins σ H s) (u : Un X.fs [] H H' s.heap h') (hok : HOk X.prog X.w H' h') : Inv X pins σ H' { s with heap := h', toks := t' } := by
  obtain ⟨m, ⟨o, es, ep, ho, r⟩, _⟩ := id I.loc
  obtain ⟨sl, hL⟩ := u.any ho I.free (by simp)
  exact I.step (g' := s.gens) (d' := s.drawn) (ch := []) (fun _ z => nomatch z) (fun b o _ hb _ e n => u.keep b o e n hb (by simp)) (fun b o _ hb _ e n => u.slot b o e n hb (by simp)) (fun b o _ e n => u.free b o e n (by simp)) (fun b o _ e => u.there b o e (by simp)) u.tups u.frzs u.tbls (fun m' hm => by
    obtain ⟨o', es', ep', ho', r'⟩ := hm
    rw [ho] at ho'; cases ho'
    exact ⟨_, es', ep', hL, r'⟩) hok I.bare
/-- behind a call (or a comprehension's block): the slots of this frame may have changed too, the records at ch may have turned -/
theorem Inv.call {g' : Array GenState} {t' : Nat} {d' : Drawn} {ch : List Addr} (I : Inv X pins σ H s) (u : Un (frs X.stack) ch H H' s.heap h') (hok : HOk X.prog X.w H' h') (hg : AllBare g')
    (hch : ∀ b ∈ ch, (b ∈ X.ex ∨ X.s_0.heap.objs.size ≤ b) ∧ b ≠ X.env.locals ∧ (∀ x c, X.env.cells.lookup x = some c → c ≠ b) ∧ ∀ p ∈ X.pn ++ pins, p.1 ≠ b) :
    Inv X pins σ H' { s with heap := h', gens := g', drawn := d', toks := t' } := by
  obtain ⟨m, ⟨o, es, ep, ho, r⟩, _⟩ := id I.loc
  obtain ⟨sl, hL⟩ := u.any ho I.free fun z => (hch _ z).2.1 rfl
  exact I.step (ch := ch) hch (fun b o hL hb hc e n => u.keep b o e n (fun z => (List.mem_cons.mp (I.stkSub b z)).elim hL hb) hc) (fun b o _ _ hc e n => u.any e n hc) (fun b o hc e n => u.free b o e n hc) (fun b o hc e => u.there b o e hc) u.tups u.frzs u.tbls (fun m' hm => by
    obtain ⟨o', es', ep', ho', r'⟩ := hm
    rw [ho] at ho'; cases ho'
    exact ⟨_, es', ep', hL, r'⟩) hok hg
/-- an untracked record of ours (an iterator) has turned -/
theorem Inv.turned {t' : Nat} {it : Addr} (I : Inv X pins σ H s) (k : ∀ b o, b ≠ it → s.heap.get? b = some o → h'.get? b = some o) (hn : H it = none) (hL : it ≠ X.env.locals)
    (h1 : it ∈ X.ex ∨ X.s_0.heap.objs.size ≤ it) (h2 : ∀ x c, X.env.cells.lookup x = some c → c ≠ it) (h3 : ∀ p ∈ X.pn ++ pins, p.1 ≠ it) : Inv X pins σ H { s with heap := h', toks := t' } := by
  have nit : ∀ b u, H b = some u → b ≠ it := fun b u e z => by rw [z, hn] at e; cases e
  refine I.step (g' := s.gens) (d' := s.drawn) (ch := [it]) (fun b hb => ?_) (fun b o _ _ hc e _ => k b o (fun z => hc (by simp [z])) e) (fun b o _ _ hc e _ => ⟨o.slots, k b o (fun z => hc (by simp [z])) e⟩) (fun _ _ _ _ n => n)
    (fun b o hc e => ⟨o, k b o (fun z => hc (by simp [z])) e⟩) (fun _ _ e => e) (fun _ _ _ e => e) (fun b ps e => ⟨#[], by rw [e]; simp⟩) (fun m hm => ?_) (fun b u e => ?_) I.bare
  · have e : b = it := by simpa using hb
    subst e
    exact ⟨h1, hL, h2, h3⟩
  · obtain ⟨o, es, ep, ho, r⟩ := hm
    exact ⟨o, es, ep, k _ o (Ne.symm hL) ho, r⟩
  · refine (I.hok b u e).stay (fun c v hc q => k c v ?_ q) (fun _ q => q) fun _ _ q => q
    rcases hc with z | z
    · rw [z]; exact nit b u e
    · exact nit c _ z
theorem Inv.tok (I : Inv X pins σ H s) (t : Nat) : Inv X pins σ H { s with toks := t } := I.un (h' := s.heap) (t' := t) Un.refl I.hok
/-- all objects kept -/
theorem Inv.kept {t' : Nat} (I : Inv X pins σ H s) (k : ∀ b u, s.heap.get? b = some u → h'.get? b = some u) : Inv X pins σ H { s with heap := h', toks := t' } := I.un (Un.kept k) (I.hok.kept k)
/-- a new object laid and tracked -/
theorem Inv.laid {a : Addr} {o : HO} {t' : Nat} (I : Inv X pins σ H s) (k : ∀ b u, s.heap.get? b = some u → h'.get? b = some u) (hp : s.heap.objs.size ≤ a) (new : ObjOk X.prog X.w (upd H a o) h' a o) :
    Inv X pins σ (upd H a o) { s with heap := h', toks := t' } := I.un (Un.laid k hp (I.hok.fresh hp)) (I.hok.laid k hp new)
/-- an object written -/
theorem Inv.write {x e : Addr} {o : HO} {t' : Nat} (I : Inv X pins σ H s) (mu : Mut (H x)) (he : e = x ∨ H e = some (.own x)) (k : ∀ b u, b ≠ e → s.heap.get? b = some u → h'.get? b = some u) (heo : ∃ u, h'.get? e = some u)
    (new : ObjOk X.prog X.w (upd H x o) h' x o) : Inv X pins σ (upd H x o) { s with heap := h', toks := t' } := I.un (Un.write mu he k heo) (I.hok.write mu he k heo new)
/-- forgetting slots, pins -/
theorem Inv.weak {σ' : List (Option V)} (I : Inv X pins σ H s) (hl : σ'.length = σ.length) (w : ∀ (i : Nat) v, σ'[i]? = some (some v) → σ[i]? = some (some v)) : Inv X pins σ' H s :=
  ⟨I.ok, I.os, I.bare, I.base, let ⟨m, hn, hl'⟩ := I.loc; ⟨m, hn, fun i x v e1 e2 e3 => hl' i x v e1 (w i v e2) e3⟩, I.cell, I.free, I.freeC, I.pin, I.hok, hl.trans I.len⟩
theorem Inv.pins_of {pins' : List (Addr × Obj)} (I : Inv X pins σ H s) (h : ∀ p ∈ pins', s.heap.get? p.1 = some p.2 ∧ H p.1 = none ∧ p.1 ≠ X.env.locals ∧ p.1 ∉ X.fs ∧ ∀ v, p.2.data ≠ .cell v) : Inv X pins' σ H s :=
  ⟨I.ok, I.os, I.bare, I.base, I.loc, I.cell, I.free, I.freeC, fun p hp => (List.mem_append.mp hp).elim (fun z => I.pin p (List.mem_append_left _ z)) (h p), I.hok, I.len⟩

theorem nodup_ix {N : List Str} (hN : N.Nodup) {i j : Nat} {x : Str} (a : N[i]? = some x) (b : N[j]? = some x) : i = j := by
  obtain ⟨h1, e1⟩ := List.getElem?_eq_some_iff.mp a
  obtain ⟨h2, e2⟩ := List.getElem?_eq_some_iff.mp b
  exact (List.getElem_inj hN).mp (e1.trans e2.symm)

/-- a name is stored; what changed -/
theorem store_ok2 {M : Model} {A : Around} {E : Value → Shared → Prop} {i : Nat} {x : Str} {v : V} {u : Value} {Q : Unit → Shared → Prop} (I : Inv X pins σ H s) (hN : X.N.Nodup) (hi : X.N[i]? = some x) (hx : Loc X.env.scope x) (r : RelV v u)
    (h : ∀ s', Inv X pins (σ.set i (some v)) H s' → (∃ a, Heap.SameBut a s.heap s'.heap ∧ (a = X.env.locals ∨ X.env.cells.lookup x = some a)) → Q () s') (hf : X.fn x = true ∨ X.env.scope.names.lookup x = some .local := by first | exact .inl rfl | exact .inr rfl | assumption) : wpAny M A (storeName X.env x u) Q E s := by
  obtain ⟨m, hn, hl⟩ := id I.loc
  have hcls : (X.env.scope.kind == .class || (X.env.scope.kind == .module && X.env.locals != X.env.globals)) = false := by rw [I.ok.kind]; rfl
  have hiσ : i < σ.length := by rw [I.len]; exact (List.getElem?_eq_some_iff.mp hi).1
  have cne := I.cne
  have tracked : ∀ {a : Addr} {h' : Heap}, (∃ o, s.heap.get? a = some o ∧ H a = none) → Heap.SameBut a s.heap h' → HOk X.prog X.w H h' := fun {a h'} ha hs b ob e => by
    obtain ⟨_, _, hfree⟩ := ha
    refine (I.hok b ob e).stay (fun c w' hc q => (hs.2 c ?_).trans q) (fun _ q => q) fun _ _ q => q
    rintro rfl
    rcases hc with rfl | hc
    · rw [hfree] at e; cases e
    · rw [hfree] at hc; cases hc
  rcases hx with hk | hk
  · refine wpAny_storeName_local hk hn (fun h' hn' hs => ?_) hcls
    obtain ⟨oL, _, _, hoL, _⟩ := id hn
    refine h _ ⟨I.ok, I.os, I.bare, ⟨fun b o e n hb hx => ?_, fun b o e n hb hx => ?_, I.base.free, fun b o e hx => ?_, I.base.tups, I.base.frzs, I.base.tbls⟩, ⟨_, hn', fun j y v' e1 e2 e3 => ?_⟩, fun y c e => ?_, I.free, I.freeC, fun p hp => ?_, tracked ⟨oL, hoL, I.free⟩ hs, by simpa using I.len⟩ ⟨_, hs, .inl rfl⟩
    · exact (hs.2 b (Nat.ne_of_lt (Nat.lt_of_lt_of_le (Heap.lt_size e) I.ok.above))).trans (I.base.keep b o e n hb hx)
    · obtain ⟨sl, e1⟩ := I.base.slot b o e n hb hx
      exact ⟨sl, (hs.2 b (Nat.ne_of_lt (Nat.lt_of_lt_of_le (Heap.lt_size e) I.ok.above))).trans e1⟩
    · obtain ⟨o', e1⟩ := I.base.there b o e hx
      exact ⟨o', (hs.2 b (Nat.ne_of_lt (Nat.lt_of_lt_of_le (Heap.lt_size e) I.ok.above))).trans e1⟩
    · by_cases hj : j = i
      · subst hj
        rw [hi] at e1; cases e1
        rw [List.getElem?_set_self hiσ] at e2
        cases e2
        exact ⟨u, r, .inl ⟨hk, by simp⟩⟩
      · rw [List.getElem?_set_ne (Ne.symm hj)] at e2
        obtain ⟨u', r', q⟩ := hl j y v' e1 e2 e3
        refine ⟨u', r', ?_⟩
        rcases q with ⟨k, e⟩ | ⟨k, c, e, z⟩
        · refine .inl ⟨k, ?_⟩
          have : y ≠ x := fun e => hj (nodup_ix hN e1 (e ▸ hi))
          simp [this, e]
        · exact .inr ⟨k, c, e, z.sameBut hs (cne y c e)⟩
    · obtain ⟨w', z⟩ := I.cell y c e
      exact ⟨w', z.sameBut hs (cne y c e)⟩
    · obtain ⟨e, n, ne, nf, d⟩ := I.pin p hp
      exact ⟨(hs.2 p.1 ne).trans e, n, ne, nf, d⟩
  · have hfn : X.fn x = true := by
      rcases hf with z | z
      · exact z
      · rw [z] at hk; cases hk
    obtain ⟨c, hc⟩ := I.ok.has x (.inl hk)
    obtain ⟨w', z⟩ := I.cell x c hc
    refine wpAny_storeName_cell I.ok.kind hk hc z (fun h' hc' hs => ?_)
    obtain ⟨oc, hoc, hocd⟩ := id z
    refine h { s with heap := h' } ⟨I.ok, I.os, I.bare, ⟨fun b o e n hb hx => ?_, fun b o e n hb hx => ?_, I.base.free, fun b o e hx => ?_, I.base.tups, I.base.frzs, I.base.tbls⟩, ⟨m, hn.sameBut hs (Ne.symm (cne x c hc)), fun j y v' e1 e2 e3 => ?_⟩, fun y c' e => ?_, I.free, I.freeC, fun p hp => ?_, tracked ⟨oc, hoc, I.freeC x c hc⟩ hs, by simpa using I.len⟩ ⟨c, hs, .inr hc⟩
    · exact (hs.2 b (Nat.ne_of_lt (Nat.lt_of_lt_of_le (Heap.lt_size e) (I.ok.cab x c hfn hc)))).trans (I.base.keep b o e n hb hx)
    · obtain ⟨sl, e1⟩ := I.base.slot b o e n hb hx
      exact ⟨sl, (hs.2 b (Nat.ne_of_lt (Nat.lt_of_lt_of_le (Heap.lt_size e) (I.ok.cab x c hfn hc)))).trans e1⟩
    · obtain ⟨o', e1⟩ := I.base.there b o e hx
      exact ⟨o', (hs.2 b (Nat.ne_of_lt (Nat.lt_of_lt_of_le (Heap.lt_size e) (I.ok.cab x c hfn hc)))).trans e1⟩
    · by_cases hj : j = i
      · subst hj
        rw [hi] at e1; cases e1
        rw [List.getElem?_set_self hiσ] at e2
        cases e2
        exact ⟨u, r, .inr ⟨.inl hk, c, hc, hc'⟩⟩
      · rw [List.getElem?_set_ne (Ne.symm hj)] at e2
        obtain ⟨u', r', q⟩ := hl j y v' e1 e2 e3
        refine ⟨u', r', ?_⟩
        rcases q with q | ⟨k, c', e, z'⟩
        · exact .inl q
        · refine .inr ⟨k, c', e, z'.sameBut hs ?_⟩
          rintro rfl
          exact hj (nodup_ix hN e1 (I.ok.inj _ _ _ e hc ▸ hi))
    · by_cases hcc : c' = c
      · subst hcc; exact ⟨_, hc'⟩
      · obtain ⟨w2, z2⟩ := I.cell y c' e
        exact ⟨w2, z2.sameBut hs hcc⟩
    · obtain ⟨e, n, ne, nf, d⟩ := I.pin p hp
      refine ⟨(hs.2 p.1 ?_).trans e, n, ne, nf, d⟩
      intro q
      rw [q, hoc] at e
      have q' : oc = p.2 := Option.some.inj e
      exact d w' (by rw [← q']; exact hocd)
theorem store_ok {M : Model} {A : Around} {E : Value → Shared → Prop} {i : Nat} {x : Str} {v : V} {u : Value} {Q : Unit → Shared → Prop} (I : Inv X pins σ H s) (hN : X.N.Nodup) (hi : X.N[i]? = some x) (hx : Loc X.env.scope x) (r : RelV v u)
    (h : ∀ s', Inv X pins (σ.set i (some v)) H s' → Q () s') (hf : X.fn x = true ∨ X.env.scope.names.lookup x = some .local := by first | exact .inl rfl | exact .inr rfl | assumption) : wpAny M A (storeName X.env x u) Q E s :=
  store_ok2 I hN hi hx r (fun s' I' _ => h s' I') hf
/-- behind a call or a block, the state as it is -/
theorem Inv.call' {s' : Shared} {ch : List Addr} (I : Inv X pins σ H s) (ho : s'.os = s.os) (u : Un (frs X.stack) ch H H' s.heap s'.heap) (hok : HOk X.prog X.w H' s'.heap) (hg : AllBare s'.gens)
    (hch : ∀ b ∈ ch, (b ∈ X.ex ∨ X.s_0.heap.objs.size ≤ b) ∧ b ≠ X.env.locals ∧ (∀ x c, X.env.cells.lookup x = some c → c ≠ b) ∧ ∀ p ∈ X.pn ++ pins, p.1 ≠ b) : Inv X pins σ H' s' := by
  obtain ⟨h', g', d', t', o'⟩ := s'
  have e : o' = s.os := ho
  subst e
  exact I.call (g' := g') (t' := t') (d' := d') u hok hg hch
end

/-! ### the judgements -/
/-- an exception: its class, its own dict's address (where it has one), the abstract heap behind it -/
abbrev XK := Value → Option Addr → Hp → Prop
abbrev St := List (Option V)
abbrev VK := V → Hp → Prop
/-- an expression's reading; a test's; an argument list's -/
abbrev TE := St → Hp → VK → Prop
abbrev TT := St → Hp → (Bool → Hp → Prop) → Prop
abbrev TA := St → Hp → (List V → Hp → Prop) → Prop
/-- what is wanted behind a statement -/
structure Ends where
  nx : St → Hp → Prop
  rt : VK
  bk : St → Hp → Prop := fun _ _ => False
  ct : St → Hp → Prop := fun _ _ => False
abbrev TS := Ends → St → Hp → Prop

def EP (X : Cx) (pins : List (Addr × Obj)) (σ : St) (Q : VK) (u : Value) (s' : Shared) : Prop := ∃ v H', Inv X pins σ H' s' ∧ RelV v u ∧ Q v H'
def TP (X : Cx) (pins : List (Addr × Obj)) (σ : St) (Q : Bool → Hp → Prop) (b : Bool) (s' : Shared) : Prop := ∃ H', Inv X pins σ H' s' ∧ Q b H'
def AP (X : Cx) (pins : List (Addr × Obj)) (σ : St) (Q : List V → Hp → Prop) (us : List Value) (s' : Shared) : Prop := ∃ vs H', Inv X pins σ H' s' ∧ Vals vs us ∧ Q vs H'
def SP (X : Cx) (pins : List (Addr × Obj)) (D : Ends) (f : Flow) (s' : Shared) : Prop :=
  match f with
  | .next => ∃ σ' H', Inv X pins σ' H' s' ∧ D.nx σ' H'
  | .brk => ∃ σ' H', Inv X pins σ' H' s' ∧ D.bk σ' H'
  | .cont => ∃ σ' H', Inv X pins σ' H' s' ∧ D.ct σ' H'
  | .ret u => ∃ v σ' H', Inv X pins σ' H' s' ∧ RelV v u ∧ D.rt v H'

def PE (X : Cx) (e : Expr) (t : TE) : Prop :=
  ∀ (pins : List (Addr × Obj)) (s : Shared) (σ : St) (H : Hp) (Q : VK), Inv X pins σ H s → t σ H Q → wpAny (model X.prog X.w) X.A (eval e X.env) (EP X pins σ Q) X.xe s
def PT (X : Cx) (e : Expr) (t : TT) : Prop :=
  ∀ (pins : List (Addr × Obj)) (s : Shared) (σ : St) (H : Hp) (Q : Bool → Hp → Prop), Inv X pins σ H s → t σ H Q → wpAny (model X.prog X.w) X.A (isTrue e X.env (eval e X.env)) (TP X pins σ Q) X.xe s
/-- a test whatever its 'whole' is (and, or) -/
def PW (X : Cx) (e : Expr) (t : TT) : Prop :=
  ∀ (whole : Sem Value) (pins : List (Addr × Obj)) (s : Shared) (σ : St) (H : Hp) (Q : Bool → Hp → Prop), Inv X pins σ H s → t σ H Q → wpAny (model X.prog X.w) X.A (isTrue e X.env whole) (TP X pins σ Q) X.xe s
theorem PW.pt {X : Cx} {e : Expr} {t : TT} (h : PW X e t) : PT X e t := h _
/-- an argument list (no star), from the left -/
def PA (X : Cx) (es : List Expr) (t : TA) : Prop :=
  ∀ (pos : Pos) (pins : List (Addr × Obj)) (s : Shared) (σ : St) (H : Hp) (Q : List V → Hp → Prop), Inv X pins σ H s → t σ H Q → wpAny (model X.prog X.w) X.A (spliced (backTo pos (starEach es X.env))) (AP X pins σ Q) X.xe s
def PS (X : Cx) (st : Stmt) (t : TS) : Prop :=
  ∀ (pins : List (Addr × Obj)) (s : Shared) (σ : St) (H : Hp) (D : Ends), Inv X pins σ H s → t D σ H → wpAny (model X.prog X.w) X.A (exec st X.env) (SP X pins D) X.xe s
def PSs (X : Cx) (st : List Stmt) (t : TS) : Prop :=
  ∀ (pins : List (Addr × Obj)) (s : Shared) (σ : St) (H : Hp) (D : Ends), Inv X pins σ H s → t D σ H → wpAny (model X.prog X.w) X.A (execs st X.env) (SP X pins D) X.xe s
/-- weaken the end -/
theorem thn {α : Type} {t : Sem α} {Q Q' : α → Shared → Prop} {M : Model} {A : Around} {E : Value → Shared → Prop} {s : Shared} (h : wpAny M A t Q E s) (hQ : ∀ a s, Q a s → Q' a s) : wpAny M A t Q' E s := wpAny_mono h hQ fun _ _ x => x
end L2

namespace L2
open PySem PySem.Spec PyProof.Rows
section
variable {X : Cx}

/-! ### names and constants -/
def tVar (i : Nat) : TE := fun σ H Q => ∃ v, σ[i]? = some (some v) ∧ Q v H
def tC (v : V) : TE := fun _ H Q => Q v H
theorem pe_var {i : Nat} {x : Str} {pos : Pos} (hN : X.N[i]? = some x) (hv : Vis X.env.scope x) (hd : (x == ("__debug__" : Str)) = false := by decide) (hcd : (x == ("__classdict__" : Str)) = false := by decide) : PE X (.Name x pos) (tVar i) := by
  intro pins s σ H Q I h
  obtain ⟨v, e, h⟩ := h
  obtain ⟨m, hn, hl⟩ := I.loc
  obtain ⟨u, r, l⟩ := hl i x v hN e hv
  have fin : EP X pins σ Q u s := ⟨v, H, I, r, h⟩
  rcases l with ⟨hk, hm⟩ | ⟨hk, c, hc, hcell⟩
  · exact wpAny_Name (wpAny_loadName_local I.ok.kind hk hn hm fin) hd
  · rcases hk with hk | hk
    · exact wpAny_Name (wpAny_loadName_cell I.ok.kind hk hc hcell fin) hd
    · exact wpAny_Name (wpAny_loadName_free I.ok.kind hk hc hcell fin hcd) hd
theorem pe_int {i j pos} : PE X (.Constant (.int i) j pos) (tC (.int i)) := fun _ _ _ H _ I h => wpAny_Constant_int ⟨.int i, H, I.tok _, ⟨_, rfl⟩, h⟩
/-- a global name of the def -/
def Gl (X : Cx) (x : Str) : Prop := X.env.kindOf x = some .globalImplicit
theorem ld_glob {E : Value → Shared → Prop} {pins : List (Addr × Obj)} {s : Shared} {σ : St} {H : Hp} {x : Str} {u : Value} {pos : Pos} {Q : Value → Shared → Prop} (I : Inv X pins σ H s) (hg : Gl X x) (hm : X.mg x = some u) (h : Q u s)
    (hd : (x == ("__debug__" : Str)) = false := by decide) : wpAny (model X.prog X.w) X.A (eval (.Name x pos) X.env) Q E s :=
  Calls.Name_function_global I.ok.kind hg (Calls.loadGlobal_global (by rw [I.ok.glob]; exact I.mod.glob.keeps I.bk) hm h) hd
theorem ld_blt {E : Value → Shared → Prop} {pins : List (Addr × Obj)} {s : Shared} {σ : St} {H : Hp} {x : Str} {u : Value} {pos : Pos} {Q : Value → Shared → Prop} (I : Inv X pins σ H s) (hg : Gl X x) (hm : X.mg x = none) (hv : bootBuiltins x = some u) (h : Q u s)
    (hn : x ≠ "__name__" := by decide) (hd : (x == ("__debug__" : Str)) = false := by decide) : wpAny (model X.prog X.w) X.A (eval (.Name x pos) X.env) Q E s := by
  obtain ⟨mb, h1, h2⟩ := I.mod.blt
  exact Calls.Name_function_global I.ok.kind hg (Calls.loadGlobal_builtin (by rw [I.ok.glob]; exact I.mod.glob.keeps I.bk) hm (by rw [I.ok.blt]; exact h1.keeps I.bk) ((h2 x hn).trans hv) h) hd
/-- a module's constant, a class, a function, as a value -/
theorem pe_glob {x : Str} {v : V} {u : Value} {pos : Pos} (hg : Gl X x) (hm : X.mg x = some u) (r : RelV v u) (hd : (x == ("__debug__" : Str)) = false := by decide) : PE X (.Name x pos) (tC v) :=
  fun _ _ _ H _ I h => ld_glob I hg hm ⟨v, H, I, r, h⟩ hd
/-! ### arithmetic -/
variable {a b : Expr} {ta tb : TE} {pos : Pos}
/-! ### comparisons -/
def PC (X : Cx) (op : CmpOp) (a b : Expr) (t : TE) : Prop :=
  ∀ (pins : List (Addr × Obj)) (s : Shared) (σ : St) (H : Hp) (Q : VK), Inv X pins σ H s → t σ H Q →
    wpAny (model X.prog X.w) X.A (eval a X.env) (fun v s₁ => wpAny (model X.prog X.w) X.A (eval b X.env) (fun u s₂ => wpAny (model X.prog X.w) X.A (compareOp op v u) (EP X pins σ Q) X.xe s₂) X.xe s₁) X.xe s
theorem nobehind (b : Expr) {op : CmpOp} (h : op ≠ .In) (h2 : op ≠ .NotIn) : behindInMarks op b = false := by
  have e1 : (op == CmpOp.In) = false := by cases op <;> first | rfl | exact absurd rfl h
  have e2 : (op == CmpOp.NotIn) = false := by cases op <;> first | rfl | exact absurd rfl h2
  cases b <;> simp [behindInMarks, e1, e2]
/-- a comparison as a value, as a test -/
def tB (t : TE) : TT := fun σ H Q => t σ H fun x H1 => ∃ c, x = .bl c ∧ Q c H1
theorem pt_cmp {op : CmpOp} {t : TE} (h : PC X op a b t) (h1 : behindInMarks op b = false := by first | exact nobehind _ (by decide) (by decide) | rfl) : PT X (.Compare a [op] [b] pos) (tB t) := by
  intro pins s σ H Q I hw
  refine wpAny_isTrue_Compare1 (thn (h pins s σ H _ I hw) fun v s1 h1 => thn h1 fun u s2 h2 => thn h2 fun c s3 ⟨x, H1, I1, r1, q1⟩ => ?_) h1
  obtain ⟨d, rfl, q⟩ := q1
  cases r1
  exact wpAny_truthy_bool ⟨H1, I1, q⟩
/-- an expression whose value is a bool, as a test -/
theorem pt_val {e : Expr} {t : TE} (h : PE X e t) (he : ∀ whole, isTrue e X.env whole = (do let v ← whole; standAt e.pos; holding [v] (truthy v)) := by intro _; rfl) : PT X e (tB t) := by
  intro pins s σ H Q I hw
  refine isTrue_plain (thn (h pins s σ H _ I hw) fun v s1 ⟨x, H1, I1, r1, q1⟩ => ?_) (he _)
  obtain ⟨d, rfl, q⟩ := q1
  cases r1
  exact wpAny_truthy_bool ⟨H1, I1, q⟩

/-! ### and, or, not -/
variable {tA tB' : TT} {rest : List Expr}
def tOr (t u : TT) : TT := fun σ H Q => t σ H fun c H1 => if c = true then Q true H1 else u σ H1 Q
def tNot (t : TT) : TT := fun σ H Q => t σ H fun c H1 => Q (!c) H1
theorem pw_or1 (ha : PT X a tA) : PW X (.BoolOp .Or [a] pos) tA := by
  intro wh pins s σ H Q I h
  refine isTrue_or (thn (ha pins s σ H Q I h) fun c s1 e => ?_)
  cases c with
  | false => exact isTrue_or_nil e
  | true => exact e
theorem pw_or (ha : PT X a tA) (hb : PW X (.BoolOp .Or (b :: rest) pos) tB') : PW X (.BoolOp .Or (a :: b :: rest) pos) (tOr tA tB') := by
  intro wh pins s σ H Q I h
  refine isTrue_or (thn (ha pins s σ H _ I h) fun c s1 ⟨H1, I1, q1⟩ => ?_)
  cases c with
  | true => exact ⟨H1, I1, q1⟩
  | false => exact hb wh pins s1 σ H1 Q I1 q1
theorem pt_not (ha : PT X a tA) : PT X (.UnaryOp .Not a pos) (tNot tA) := by
  intro pins s σ H Q I h
  exact isTrue_not (ha pins s σ H (fun c H1 => Q (!c) H1) I h)
end
end L2

namespace L2
open PySem PySem.Spec PyProof.Rows

/-! ### a list, a tuple that is read: tracked, frozen, or an object of the module -/
def SqL (K : PySem.W.Frag) (H : Hp) (a : Addr) (xs : List V) : Prop :=
  Rd H a (.lst xs) ∨
    ∃ (o : Obj) (its : Array Value) (n : Nat), K.lookup a = some o ∧ o.cls = .type "list" ∧ o.dict = none ∧ o.data = .seq its n ∧ its.size ≤ sizeLine ∧ Vals xs its.toList
def SqT (K : PySem.W.Frag) (H : Hp) (a : Addr) (xs : List V) : Prop :=
  Rd H a (.tup xs) ∨
    ∃ (o : Obj) (its : Array Value) (n : Nat), K.lookup a = some o ∧ o.cls = .type "tuple" ∧ o.data = .seq its n ∧ its.size ≤ sizeLine ∧ Vals xs its.toList
def absV : Value → Option V
  | .none => some .non
  | .bool b => some (.bl b)
  | .int i _ => some (.int i)
  | .str x _ => some (.str x)
  | .bytes b _ => some (.byt b)
  | .float b _ => some (.flt b)
  | .ref a => some (.ref a)
  | .type n => some (.ty n)
  | _ => none
theorem RelV.abs {x : V} {u : Value} (r : RelV x u) : absV u = some x := by
  cases x with
  | non => cases r; rfl
  | bl _ => cases r; rfl
  | int _ => obtain ⟨t, rfl⟩ := r; rfl
  | str _ => obtain ⟨t, rfl⟩ := r; rfl
  | byt _ => obtain ⟨t, rfl⟩ := r; rfl
  | flt _ => obtain ⟨t, rfl⟩ := r; rfl
  | ref _ => cases r; rfl
  | ty _ => cases r; rfl
theorem RelV.inj {x y : V} {u : Value} (r : RelV x u) (q : RelV y u) : x = y := Option.some.inj (r.abs.symm.trans q.abs)
theorem Vals.inj : ∀ {xs ys : List V} {us : List Value}, Vals xs us → Vals ys us → xs = ys
  | _, _, _, .nil, .nil => rfl
  | _, _, _, .cons r t, .cons r' t' => by rw [r.inj r', Vals.inj t t']
section
variable {X : Cx} {pins : List (Addr × Obj)} {σ : St} {H : Hp} {s : Shared} {a : Addr} {xs ys : List V}
theorem SqL.of {K : PySem.W.Frag} (h : H a = some (.lst xs)) : SqL K H a xs := .inl (.inl h)
theorem SqT.of {K : PySem.W.Frag} (h : H a = some (.tup xs)) : SqT K H a xs := .inl (.inl h)
theorem Inv.list (I : Inv X pins σ H s) (h : SqL X.K H a xs) : ∃ its : List Value, Vals xs its ∧ PlainL s.heap a its.toArray ∧ xs.length ≤ sizeLine := by
  rcases h with h | ⟨o, its, n, hk, hc, hd, hs, hz, r⟩
  · obtain ⟨z, its, n, r, e⟩ := h.ok I.hok
    exact ⟨its, r, ⟨_, n, e, rfl, rfl, rfl⟩, z⟩
  · refine ⟨its.toList, r, ⟨o, n, I.kIn a o hk, hc, hd, by simpa using hs⟩, ?_⟩
    have e := r.length
    simp only [Array.length_toList] at e
    omega
theorem Inv.tuple (I : Inv X pins σ H s) (h : SqT X.K H a xs) : ∃ its : List Value, Vals xs its ∧ IsTup s.heap a its.toArray ∧ xs.length ≤ sizeLine := by
  rcases h with h | ⟨o, its, n, hk, hc, hs, hz, r⟩
  · obtain ⟨z, its, r, p⟩ := h.ok I.hok
    exact ⟨its, r, p, z⟩
  · refine ⟨its.toList, r, ⟨o, I.kIn a o hk, hc, n, by simpa using hs⟩, ?_⟩
    have e := r.length
    simp only [Array.length_toList] at e
    omega
theorem Inv.list_inj (I : Inv X pins σ H s) (h : SqL X.K H a xs) (h' : SqL X.K H a ys) : xs = ys := by
  obtain ⟨its, r, ⟨o, n, e, _, _, d⟩, _⟩ := I.list h
  obtain ⟨its', r', ⟨o', n', e', _, _, d'⟩, _⟩ := I.list h'
  rw [e] at e'; cases e'
  rw [d] at d'
  injection d' with d1 _
  have : its = its' := by simpa using congrArg Array.toList d1
  subst this
  exact r.inj r'
end

/-! ### another wish about exceptions -/
abbrev Cx.wish (X : Cx) (E : Value → Shared → Prop) : Cx := { X with xe := E }
/-- no exception leaves -/
abbrev Cx.nox (X : Cx) : Cx := X.wish fun _ _ => False
theorem Cx.Ok.wish {X : Cx} (ok : X.Ok) (E : Value → Shared → Prop) : (X.wish E).Ok :=
  ⟨ok.mod, ok.kind, ok.glob, ok.blt, ok.above, ok.inj, ok.has, ok.cab, ok.hd, ok.frames, ok.stk, ok.exf, ok.bs, ok.bsz, ok.noex, ok.exfs, ok.funs, ok.frf⟩
theorem Cx.Ok.unwish {X : Cx} {E : Value → Shared → Prop} (ok : (X.wish E).Ok) : X.Ok :=
  ⟨ok.mod, ok.kind, ok.glob, ok.blt, ok.above, ok.inj, ok.has, ok.cab, ok.hd, ok.frames, ok.stk, ok.exf, ok.bs, ok.bsz, ok.noex, ok.exfs, ok.funs, ok.frf⟩
section
variable {X : Cx} {pins : List (Addr × Obj)} {σ : St} {H : Hp} {s : Shared} {E : Value → Shared → Prop}
theorem Inv.wish (I : Inv X pins σ H s) (E : Value → Shared → Prop) : Inv (X.wish E) pins σ H s := ⟨I.ok.wish E, I.os, I.bare, I.base, I.loc, I.cell, I.free, I.freeC, I.pin, I.hok, I.len⟩
theorem Inv.unwish (I : Inv (X.wish E) pins σ H s) : Inv X pins σ H s := ⟨I.ok.unwish, I.os, I.bare, I.base, I.loc, I.cell, I.free, I.freeC, I.pin, I.hok, I.len⟩
theorem SP.unwish {D : Ends} {f : Flow} {s' : Shared} (h : SP (X.wish E) pins D f s') : SP X pins D f s' := by
  cases f with
  | next => obtain ⟨σ', H', I, q⟩ := h; exact ⟨σ', H', I.unwish, q⟩
  | brk => obtain ⟨σ', H', I, q⟩ := h; exact ⟨σ', H', I.unwish, q⟩
  | cont => obtain ⟨σ', H', I, q⟩ := h; exact ⟨σ', H', I.unwish, q⟩
  | ret u => obtain ⟨v, σ', H', I, r, q⟩ := h; exact ⟨v, σ', H', I.unwish, r, q⟩
theorem PE.nox {e : Expr} {t : TE} (h : PE X.nox e t) : PE X e t := fun pins s σ H Q I hw =>
  wpAny_mono (h pins s σ H Q (I.wish _) hw) (fun _ _ ⟨v, H', I', r, q⟩ => ⟨v, H', I'.unwish, r, q⟩) fun _ _ z => False.elim z
theorem PT.nox {e : Expr} {t : TT} (h : PT X.nox e t) : PT X e t := fun pins s σ H Q I hw =>
  wpAny_mono (h pins s σ H Q (I.wish _) hw) (fun _ _ ⟨H', I', q⟩ => ⟨H', I'.unwish, q⟩) fun _ _ z => False.elim z
theorem PSs.nox {st : List Stmt} {t : TS} (h : PSs X.nox st t) : PSs X st t := fun pins s σ H D I hw =>
  wpAny_mono (h pins s σ H D (I.wish _) hw) (fun _ _ q => q.unwish) fun _ _ z => False.elim z
end

/-! ### blocks and small statements -/
section
variable {X : Cx} {st : Stmt} {rest : List Stmt} {t u : TS} {e : Expr} {te : TE} {pos : Pos}
def tNext : TS := fun D σ H => D.nx σ H
def tSeq (t u : TS) : TS := fun D σ H => t { D with nx := u D } σ H
theorem pss_nil : PSs X [] tNext := fun _ _ σ H _ I h => wpAny_execs_nil ⟨σ, H, I, h⟩
theorem pss_cons (h1 : PS X st t) (h2 : PSs X rest u) : PSs X (st :: rest) (tSeq t u) := by
  intro pins s σ H D I h
  refine wpAny_execs_cons (thn (h1 pins s σ H { D with nx := u D } I h) fun f s1 q => ?_)
  cases f with
  | next =>
    obtain ⟨σ', H', I', q⟩ := q
    exact h2 pins s1 σ' H' D I' q
  | ret v => exact q
  | brk => exact q
  | cont => exact q
theorem pss_one (h1 : PS X st t) : PSs X [st] t := by
  intro pins s σ H D I h
  refine wpAny_execs_cons (thn (h1 pins s σ H D I h) fun f s1 q => ?_)
  cases f with
  | next => exact wpAny_execs_nil q
  | ret v => exact q
  | brk => exact q
  | cont => exact q
/-- in a def's body nothing is shown -/
theorem Inv.quiet {pins : List (Addr × Obj)} {σ : St} {H : Hp} {s : Shared} (I : Inv X pins σ H s) : interactive X.env = false := by simp [interactive, I.ok.kind]
/-- an expression whose value is dropped -/
def tDrop (te : TE) : TS := fun D σ H => te σ H fun _ H1 => D.nx σ H1
theorem ps_expr (he : PE X e te) (hs : swapsWith e none pos.line X.env = pure false := by rfl) : PS X (.Expr e pos) (tDrop te) := by
  intro pins s σ H D I h
  exact wpAny_Expr_any (thn (he pins s σ H _ I h) fun v s1 ⟨x, H1, I1, r1, q1⟩ => ⟨σ, H1, I1, q1⟩) I.quiet hs
def tRet (te : TE) : TS := fun D σ H => te σ H D.rt
theorem ps_ret (he : PE X e te) : PS X (.Return (some e) pos) (tRet te) := by
  intro pins s σ H D I h
  exact wpAny_Return_some (thn (he pins s σ H _ I h) fun v s1 ⟨x, H1, I1, r1, q1⟩ => ⟨x, σ, H1, I1, r1, q1⟩)
def tIfS (c : TT) (t u : TS) : TS := fun D σ H => c σ H fun b H1 => if b = true then t D σ H1 else u D σ H1
theorem ps_if {c : Expr} {a b : List Stmt} {tc : TT} (hc : PT X c tc) (ha : PSs X a t) (hb : PSs X b u) : PS X (.If c a b pos) (tIfS tc t u) := by
  intro pins s σ H D I h
  refine wpAny_If (thn (hc pins s σ H _ I h) fun d s1 ⟨H1, I1, q1⟩ => ?_)
  cases d with
  | true => exact ha pins s1 σ H1 D I1 q1
  | false => exact hb pins s1 σ H1 D I1 q1
end

/-! ### targets -/
abbrev TG := V → St → Hp → (St → Hp → Prop) → Prop
abbrev TGs := List V → St → Hp → (St → Hp → Prop) → Prop
def PG (X : Cx) (target : Expr) (t : TG) : Prop :=
  ∀ (pins : List (Addr × Obj)) (s : Shared) (σ : St) (H : Hp) (v : V) (u : Value) (Q : St → Hp → Prop), Inv X pins σ H s → RelV v u → t v σ H Q →
    wpAny (model X.prog X.w) X.A (assign target X.env u) (fun _ s' => ∃ σ' H', Inv X pins σ' H' s' ∧ Q σ' H') X.xe s
/-- several targets, one after another -/
def PGs (X : Cx) (ts : List Expr) (t : TGs) : Prop :=
  ∀ (pins : List (Addr × Obj)) (s : Shared) (σ : St) (H : Hp) (vs : List V) (us : List Value) (Q : St → Hp → Prop), Inv X pins σ H s → Vals vs us → t vs σ H Q →
    wpAny (model X.prog X.w) X.A (assignInOrder ((assignEach ts X.env).map (·.2)) us) (fun _ s' => ∃ σ' H', Inv X pins σ' H' s' ∧ Q σ' H') X.xe s
/-- a op= b, by values -/
abbrev TIp := V → V → Hp → VK → Prop
def PIp (X : Cx) (op : Operator) (t : TIp) : Prop :=
  ∀ (pins : List (Addr × Obj)) (s : Shared) (σ : St) (H : Hp) (x y : V) (v u : Value) (Q : VK), Inv X pins σ H s → RelV x v → RelV y u → t x y H Q →
    wpAny (model X.prog X.w) X.A (inplaceOp op v u) (EP X pins σ Q) X.xe s
section
variable {X : Cx} {pos : Pos}
def gName (i : Nat) : TG := fun v σ H Q => Q (σ.set i (some v)) H
theorem pg_name {i : Nat} {x : Str} (hN : X.N.Nodup) (hi : X.N[i]? = some x) (hx : Loc X.env.scope x) (hf : X.fn x = true ∨ X.env.scope.names.lookup x = some .local := by first | exact .inl rfl | exact .inr rfl | assumption) : PG X (.Name x pos) (gName i) := by
  intro pins s σ H v u Q I r h
  exact wpAny_assign_Name (store_ok I hN hi hx r (fun s' I' => ⟨_, H, I', h⟩) hf)
def gNil : TGs := fun vs σ H Q => vs = [] ∧ Q σ H
def gCons (t : TG) (u : TGs) : TGs := fun vs σ H Q => ∃ v r, vs = v :: r ∧ t v σ H fun σ' H' => u r σ' H' Q
theorem pgs_nil : PGs X [] gNil := by
  intro pins s σ H vs us Q I r h
  obtain ⟨e, h⟩ := h
  subst e
  cases r
  exact assignInOrder_nil ⟨σ, H, I, h⟩
theorem pgs_cons {e : Expr} {es : List Expr} {t : TG} {u : TGs} (h1 : PG X e t) (h2 : PGs X es u)
    (hs : (assignEach (e :: es) X.env).map (·.2) = assign e X.env :: (assignEach es X.env).map (·.2) := by rfl) : PGs X (e :: es) (gCons t u) := by
  intro pins s σ H vs us Q I r h
  obtain ⟨v, vr, e1, h⟩ := h
  subst e1
  cases r with
  | cons r rr =>
    rw [hs]
    refine assignInOrder_cons (thn (h1 pins s σ H _ _ _ I r h) fun _ s1 ⟨σ1, H1, I1, q1⟩ => ?_)
    exact h2 pins s1 σ1 H1 _ _ Q I1 rr q1
/-- (a, b, ..) = a tuple of that length -/
def gTup (K : PySem.W.Frag) (n : Nat) (t : TGs) : TG := fun v σ H Q => ∃ a xs, v = .ref a ∧ SqT K H a xs ∧ xs.length = n ∧ t xs σ H Q
theorem pg_tup {es : List Expr} {k : Nat} {t : TGs} {n : Nat} (hc : X.calm = true) (h : PGs X es t)
    (hn : (assignEach es X.env).length = n := by rfl) (hst : (assignEach es X.env).findIdx? (·.1) = none := by rfl) : PG X (.Tuple es k pos) (gTup X.K n t) := by
  intro pins s σ H v u Q I r hw
  obtain ⟨a, xs, e1, hq, hl, hw⟩ := hw
  subst e1
  cases r
  obtain ⟨its, rv, ht, hz⟩ := I.tuple hq
  refine assign_Tuple_tuple (I.ok.hd hc) ht (by simp [hn, ← hl, rv.length]) hst fun h' hx => ?_
  have I1 : Inv X pins σ H { s with heap := h' } := I.kept (t' := s.toks) fun b o e => hx b o (Nat.ne_of_lt (Heap.lt_size e)) e
  exact h pins _ σ H xs _ Q I1 (by simpa using rv) hw
/-- target = value -/
def tAsg (te : TE) (g : TG) : TS := fun D σ H => te σ H fun x H1 => g x σ H1 D.nx
/-- name = value -/
theorem ps_set {i : Nat} {x : Str} {e : Expr} {te : TE} {pos' : Pos} (hN : X.N.Nodup) (hi : X.N[i]? = some x) (hx : Loc X.env.scope x) (he : PE X e te) (hs : swapsWith e (some (.Name x pos')) pos.line X.env = pure false := by rfl) (hf : X.fn x = true ∨ X.env.scope.names.lookup x = some .local := by first | exact .inl rfl | exact .inr rfl | assumption) :
    PS X (.Assign [.Name x pos'] e pos) (tAsg te (gName i)) := by
  intro pins s σ H D I h
  refine wpAny_Assign_Name (thn (he pins s σ H _ I h) fun v s1 ⟨y, H1, I1, r1, q1⟩ => ?_) hs
  exact store_ok I1 hN hi hx r1 (fun s2 I2 => ⟨_, H1, I2, q1⟩) hf
/-- name op= e -/
def tAug (i : Nat) (te : TE) (ti : TIp) : TS := fun D σ H => ∃ x, σ[i]? = some (some x) ∧ te σ H fun y H1 => ti x y H1 fun z H2 => D.nx (σ.set i (some z)) H2
theorem ps_aug {i : Nat} {x : Str} {e : Expr} {te : TE} {op : Operator} {ti : TIp} {pos' : Pos} (hN : X.N.Nodup) (hi : X.N[i]? = some x) (hx : Loc X.env.scope x) (he : PE X e te) (ho : PIp X op ti) (hf : X.fn x = true ∨ X.env.scope.names.lookup x = some .local := by first | exact .inl rfl | exact .inr rfl | assumption) :
    PS X (.AugAssign (.Name x pos') op e pos) (tAug i te ti) := by
  intro pins s σ H D I h
  obtain ⟨v, e1, h⟩ := h
  obtain ⟨m, hn, hl⟩ := I.loc
  have vis : Vis X.env.scope x := by rcases hx with k | k; exact .inl k; exact .inr (.inl k)
  obtain ⟨u, r, l⟩ := hl i x v hi e1 vis
  refine wpAny_AugAssign_Name ?_
  have go : wpAny (model X.prog X.w) X.A (eval e X.env) (fun w s₂ => wpAny (model X.prog X.w) X.A (inplaceOp op u w) (fun r s₃ => wpAny (model X.prog X.w) X.A (storeName X.env x r) (fun _ => SP X pins D .next) X.xe s₃) X.xe s₂) X.xe s := by
    refine thn (he pins s σ H _ I h) fun w s1 ⟨y, H1, I1, r1, q1⟩ => ?_
    refine thn (ho pins s1 σ H1 v y u w _ I1 r r1 q1) fun z s2 ⟨zv, H2, I2, r2, q2⟩ => ?_
    exact store_ok I2 hN hi hx r2 (fun s3 I3 => ⟨_, H2, I3, q2⟩) hf
  rcases l with ⟨hk, hm⟩ | ⟨hk, c, hc, hcell⟩
  · exact wpAny_loadName_local I.ok.kind hk hn hm go
  · rcases hk with hk | hk
    · exact wpAny_loadName_cell I.ok.kind hk hc hcell go
    · rcases hx with k | k
      · have : X.env.scope.names.lookup x = some .free := hk
        rw [k] at this; cases this
      · have : X.env.scope.names.lookup x = some .free := hk
        rw [k] at this; cases this
/-- ints -/
def ipI (f : Int → Int → Int) : TIp := fun x y H Q => ∃ i j, x = .int i ∧ y = .int j ∧ Q (.int (f i j)) H
theorem ip_add : PIp X .Add (ipI fun i j => i + j) := by
  intro pins s σ H x y v u Q I r1 r2 h
  obtain ⟨i, j, e1, e2, q⟩ := h
  subst e1; subst e2
  obtain ⟨t, rfl⟩ := r1
  obtain ⟨t', rfl⟩ := r2
  exact iadd_int ⟨.int _, H, I.tok _, ⟨_, rfl⟩, q⟩
theorem ip_sub : PIp X .Sub (ipI fun i j => i - j) := by
  intro pins s σ H x y v u Q I r1 r2 h
  obtain ⟨i, j, e1, e2, q⟩ := h
  subst e1; subst e2
  obtain ⟨t, rfl⟩ := r1
  obtain ⟨t', rfl⟩ := r2
  exact isub_int ⟨.int _, H, I.tok _, ⟨_, rfl⟩, q⟩
end

/-! ### while -/
section
variable {X : Cx} {pos : Pos}
/-- the invariant W with its measure -/
def tWhile (c : TT) (tb : TS) : TS := fun D σ H => ∃ W : Nat → St → Hp → Prop, (∃ m, W m σ H) ∧ ∀ m σ H, W m σ H →
  c σ H fun b H1 => if b = true then ∃ N : St → Hp → Prop, (∀ σ' H', N σ' H' → ∃ m', m' < m ∧ W m' σ' H') ∧ tb { D with nx := N, ct := N, bk := D.nx } σ H1 else D.nx σ H1
theorem ps_while {c : Expr} {body : List Stmt} {tc : TT} {tb : TS} (hp : PassesOwn (model X.prog X.w) X.A X.env X.xe) (hc : PT X c tc) (hb : PSs X body tb) : PS X (.While c body [] pos) (tWhile tc tb) := by
  intro pins s σ H D I h
  obtain ⟨W, ⟨m0, w0⟩, turn⟩ := h
  refine wpAny_While (codeAny_whileLoop (fun n s' => ∃ σ' H', Inv X pins σ' H' s' ∧ W n σ' H') ?_ m0 ⟨σ, H, I, w0⟩)
  rintro n s1 ⟨σ1, H1, I1, w1⟩
  refine wpAny_passesOwn hp (thn (hc pins s1 σ1 H1 _ I1 (turn n σ1 H1 w1)) fun b s2 ⟨H2, I2, q2⟩ => ?_)
  cases b with
  | true =>
    obtain ⟨N, hN, q2⟩ := q2
    rw [if_pos rfl]
    refine wpAny_passesOwn hp (thn (hb pins s2 σ1 H2 _ I2 q2) fun f s3 q3 => ?_)
    cases f with
    | next =>
      obtain ⟨σ3, H3, I3, n3⟩ := q3
      obtain ⟨m', hm, w3⟩ := hN σ3 H3 n3
      exact ⟨m', hm, σ3, H3, I3, w3⟩
    | cont =>
      obtain ⟨σ3, H3, I3, n3⟩ := q3
      obtain ⟨m', hm, w3⟩ := hN σ3 H3 n3
      exact ⟨m', hm, σ3, H3, I3, w3⟩
    | brk => exact q3
    | ret v => exact q3
  | false =>
    rw [if_neg Bool.false_ne_true]
    exact wpAny_execs_nil ⟨σ1, H2, I2, q2⟩
end

/-! ### what a loop or a comprehension walks -/
/-- at turn i: it yields x (the heap may grow), or it stops -/
structure It where
  go : Nat → Hp → Prop
  yld : Nat → Hp → V → Hp → Prop
  stop : Nat → Hp → Prop
/-- the iterator's own objects may turn: they are not the frame's, not pinned, younger than the entry (or a comprehension's own) -/
def FpOk (X : Cx) (pins : List (Addr × Obj)) (H : Hp) (b : Addr) : Prop :=
  H b = none ∧ b ≠ X.env.locals ∧ b ∉ X.fs ∧ (b ∈ X.ex ∨ X.s_0.heap.objs.size ≤ b) ∧ (∀ x c, X.env.cells.lookup x = some c → c ≠ b) ∧ ∀ p ∈ X.pn ++ pins, p.1 ≠ b
theorem Inv.fpOk {X : Cx} {pins : List (Addr × Obj)} {σ : St} {H H' : Hp} {s : Shared} {b : Addr} (I : Inv X pins σ H s) (hb : s.heap.objs.size ≤ b) (hn : H' b = none) : FpOk X pins H' b := by
  refine ⟨hn, Nat.ne_of_gt (Nat.lt_of_lt_of_le I.lt hb), I.nofs hb, .inr (Nat.le_trans I.sz hb), fun x c e z => ?_, fun p hp z => ?_⟩
  · obtain ⟨v, q⟩ := I.cell x c e
    exact absurd (Nat.lt_of_lt_of_le q.lt (by rw [z]; exact hb)) (Nat.lt_irrefl _)
  · exact absurd (Nat.lt_of_lt_of_le (Heap.lt_size (I.pin p hp).1) (by rw [z]; exact hb)) (Nat.lt_irrefl _)
structure Turn (P : Program) (w : World) (K : PySem.W.Frag) (tg : Expr) (J : It) (fp : List Addr) (it : Addr) (tn : Nat → Heap → Prop) : Prop where
  mem : it ∈ fp
  obj : ∀ i h, tn i h → ∀ b ∈ fp, ∃ o, h.get? b = some o ∧ ∀ v, o.data ≠ .cell v
  keep : ∀ i h h', tn i h → (∀ b ∈ fp, ∀ o, h.get? b = some o → h'.get? b = some o) → tn i h'
  item : ∀ (X : Cx), X.prog = P → X.w = w → X.K = K → X.calm = true → ∀ (i : Nat) (pins : List (Addr × Obj)) (s : Shared) (σ : St) (H : Hp) (E : Value → Shared → Prop), Inv X pins σ H s → (∀ b ∈ fp, FpOk X pins H b) → tn i s.heap → J.go i H →
    wpAny (model P w) X.A (pyNext (.ref it)) (fun r s1 => ∃ u, r = some u ∧
      wpAny (model P w) X.A (letOwnedTupleGo tg (.ref it) u) (fun _ s2 => ∃ x H', Inv X pins σ H' s2 ∧ RelV x u ∧ J.yld i H x H' ∧ tn (i + 1) s2.heap ∧ ∀ b ∈ fp, H' b = none) E s1) E s
  done : ∀ (X : Cx), X.prog = P → X.w = w → X.K = K → X.calm = true → ∀ (i : Nat) (pins : List (Addr × Obj)) (s : Shared) (σ : St) (H : Hp) (E : Value → Shared → Prop), Inv X pins σ H s → (∀ b ∈ fp, FpOk X pins H b) → tn i s.heap → J.stop i H →
    wpAny (model P w) X.A (pyNext (.ref it)) (fun r s1 => r = none ∧ Inv X pins σ H s1) E s
  self : ∀ (A : Around) (i : Nat) (s : Shared) (Q : Value → Shared → Prop) (E : Value → Shared → Prop), tn i s.heap → Q (.ref it) s → wpAny (model P w) A (pyIter (.ref it)) Q E s
abbrev TI := St → Hp → (It → Hp → Prop) → Prop
/-- an iterator has come -/
def PIE (X : Cx) (pins : List (Addr × Obj)) (σ : St) (tg : Expr) (R : It → Hp → Prop) (itv : Value) (s2 : Shared) : Prop :=
  ∃ (it : Addr) (fp : List Addr) (tn : Nat → Heap → Prop) (J : It) (H' : Hp), itv = .ref it ∧ Inv X pins σ H' s2 ∧ Turn X.prog X.w X.K tg J fp it tn ∧ tn 0 s2.heap ∧ (∀ b ∈ fp, FpOk X pins H' b) ∧ R J H'
def PI (X : Cx) (tg iter : Expr) (wi : TI) : Prop :=
  ∀ (pins : List (Addr × Obj)) (s : Shared) (σ : St) (H : Hp) (R : It → Hp → Prop), Inv X pins σ H s → wi σ H R →
    wpAny (model X.prog X.w) X.A (eval iter X.env) (fun v s1 => wpAny (model X.prog X.w) X.A (pyIter v) (PIE X pins σ tg R) X.xe s1) X.xe s

/-- the step ahead of the store is nothing for an iterator that keeps no tuple -/
theorem go_of {M : Model} {A : Around} {E : Value → Shared → Prop} {s : Shared} {tg : Expr} {it : Addr} {u : Value} {o : Obj} {n : String} {vs : Array Value} {Q : Unit → Shared → Prop} (ho : s.heap.get? it = some o) (hc : o.cls = .type n) (hd : o.data = .fields vs)
    (hn : ["enumerate", "zip", "dict_itemiterator", "dict_reverseitemiterator", "odict_iterator", "itertools.zip_longest", "itertools.pairwise"].contains n = false) (hQ : Q () s) : wpAny M A (letOwnedTupleGo tg (.ref it) u) Q E s := by
  unfold letOwnedTupleGo
  cases tg <;> first
    | exact wpAny_pure hQ
    | (cases u <;> first
        | exact wpAny_pure hQ
        | (refine wpAny_bind (wpAny_load ho ?_)
           rw [hc, hd]
           show wpAny M A (if (["enumerate", "zip", "dict_itemiterator", "dict_reverseitemiterator", "odict_iterator", "itertools.zip_longest", "itertools.pairwise"].contains n && vs[0]? == some (rawInt _)) = true then _ else _) Q E s
           rw [if_neg (by intro h; rw [hn, Bool.false_and] at h; cases h)]
           exact wpAny_pure hQ))

/-- the list at a, as it stands at each turn (a loop may append to it) -/
def Itl (K : PySem.W.Frag) (a : Addr) : It :=
  ⟨fun i H => ∃ xs x, SqL K H a xs ∧ xs[i]? = some x, fun i H x H' => H' = H ∧ ∀ xs, SqL K H a xs → xs[i]? = some x, fun i H => ∃ xs, SqL K H a xs ∧ xs.length ≤ i⟩
/-- lo, lo + 1, .. (n of them) -/
def Itr (lo : Int) (n : Nat) : It := ⟨fun i _ => i < n, fun i H x H' => H' = H ∧ x = .int (lo + i), fun i _ => n ≤ i⟩
theorem turn_list {P : Program} {w : World} {K : PySem.W.Frag} {tg : Expr} (a it : Addr) : Turn P w K tg (Itl K a) [it] it (fun i h => h.IsListIter it a i) where
  mem := by simp
  obj := fun i h st b hb => by
    have e : b = it := by simpa using hb
    subst e
    obtain ⟨o, e, c, d⟩ := st
    exact ⟨o, e, fun v z => by rw [d] at z; cases z⟩
  keep := fun i h h' st k => st.at fun o e => k it (by simp) o e
  item := by
    intro X hP hw hK hc i pins s σ H E I hf st hg
    subst hP hw hK
    obtain ⟨xs, x, hq, hx⟩ := hg
    obtain ⟨its, rv, p, hz⟩ := I.list hq
    obtain ⟨u, hu, ru⟩ := rv.get hx
    obtain ⟨f0, f1, f2, f3, f4, f5⟩ := hf it (by simp)
    refine wpAny_pyNext_list_item st p.isList (x := u) (by simpa using hu) fun h' st' sb => ?_
    have I1 : Inv X pins σ H { s with heap := h' } := I.turned (t' := s.toks) (fun b o hb e => (sb.2 b hb).trans e) f0 f1 f3 f4 f5
    obtain ⟨o, e, c, d⟩ := id st'
    exact ⟨u, rfl, go_of (s := { s with heap := h' }) e c d (by decide) ⟨x, H, I1, ru, ⟨rfl, fun ys hy => by rw [I.list_inj hy hq]; exact hx⟩, st', fun b hb => (hf b hb).1⟩⟩
  done := by
    intro X hP hw hK hc i pins s σ H E I hf st hg
    subst hP hw hK
    obtain ⟨xs, hq, hx⟩ := hg
    obtain ⟨its, rv, p, hz⟩ := I.list hq
    obtain ⟨f0, f1, f2, f3, f4, f5⟩ := hf it (by simp)
    have hl := rv.length
    exact wpAny_pyNext_list_end (I.ok.hd hc) st p.isList (by simp; omega) fun h' eb => ⟨rfl, I.turned (t' := s.toks) (fun b o hb e => eb b o hb e) f0 f1 f3 f4 f5⟩
  self := fun _ _ _ _ _ st h => wpAny_pyIter_listiter st h
theorem turn_range {P : Program} {w : World} {K : PySem.W.Frag} {tg : Expr} (it : Addr) (lo : Int) (n : Nat) : Turn P w K tg (Itr lo n) [it] it (fun i h => IsRangeIter h it (lo + (i : Nat) * 1) ((n : Int) - (i : Nat)) 1) where
  mem := by simp
  obj := fun i h st b hb => by
    have e : b = it := by simpa using hb
    subst e
    exact ⟨_, st, fun v z => by
      have z' : Data.fields _ = Data.cell v := z
      cases z'⟩
  keep := fun i h h' st k => k it (by simp) _ st
  item := by
    intro X hP hw hK hc i pins s σ H E I hf st hg
    subst hP hw hK
    obtain ⟨f0, f1, f2, f3, f4, f5⟩ := hf it (by simp)
    have W := Walks.range (prog := X.prog) (w := X.w) (I.ok.hd hc) it lo 1 n
    refine W.item i s _ _ hg st fun v h' tk hv st' kk => ?_
    obtain ⟨t, rfl⟩ := hv
    have I1 : Inv X pins σ H { s with heap := h', toks := tk } := I.turned (fun b o hb e => kk b o (by simpa using hb) e) f0 f1 f3 f4 f5
    refine ⟨_, rfl, go_of (s := { s with heap := h', toks := tk }) (n := "range_iterator") st' rfl rfl (by decide) ⟨.int (lo + i), H, I1, ⟨t, ?_⟩, ⟨rfl, rfl⟩, st', fun b hb => (hf b hb).1⟩⟩
    rw [Int.mul_one]
  done := by
    intro X hP hw hK hc i pins s σ H E I hf st hg
    subst hP hw hK
    obtain ⟨f0, f1, f2, f3, f4, f5⟩ := hf it (by simp)
    exact wpAny_pyNext_range_end (I.ok.hd hc) st (by have : n ≤ i := hg; omega) fun h' eb => ⟨rfl, I.turned (t' := s.toks) (fun b o hb e => eb b o hb e) f0 f1 f3 f4 f5⟩
  self := fun _ _ _ _ _ st h => wpAny_pyIter_rangeiter st h
end L2

namespace L2
open PySem PySem.Spec PyProof.Rows
section
variable {X : Cx} {tg : Expr}
def iList (K : PySem.W.Frag) (tl : TE) : TI := fun σ H R => tl σ H fun x H1 => ∃ a, x = .ref a ∧ (∃ xs, SqL K H1 a xs) ∧ R (Itl K a) H1
theorem pi_list {l : Expr} {tl : TE} (hl : PE X l tl) : PI X tg l (iList X.K tl) := by
  intro pins s σ H R I h
  refine thn (hl pins s σ H _ I h) fun v s1 ⟨x, H1, I1, r1, q1⟩ => ?_
  obtain ⟨a, e, ⟨xs, hq⟩, q⟩ := q1
  subst e
  cases r1
  obtain ⟨its, rv, p, hz⟩ := I1.list hq
  refine wpAny_pyIter_list p.isList ?_
  refine ⟨s1.heap.objs.size, [s1.heap.objs.size], _, _, H1, rfl, I1.kept (t' := s1.toks) fun b o e => Heap.get?_push_of_some _ e, turn_list a _, ⟨_, Heap.get?_push_size _ rfl, rfl, rfl⟩, fun b hb => ?_, q⟩
  have e : b = s1.heap.objs.size := by simpa using hb
  subst e
  exact I1.fpOk (Nat.le_refl _) (I1.hok.fresh (Nat.le_refl _))
/-- a range object just made, walked -/
theorem range_it {pins : List (Addr × Obj)} {σ : St} {H : Hp} {s : Shared} {R : It → Hp → Prop} {E : Value → Shared → Prop} {lo hi : Int} {t u v : Tok} {tk : Nat} (I : Inv X pins σ H s) (h1 : -(2 ^ 62) ≤ lo) (h2 : lo < 2 ^ 62) (h3 : -(2 ^ 62) ≤ hi) (h4 : hi < 2 ^ 62)
    (q : R (Itr lo (hi - lo).toNat) H) : wpAny (model X.prog X.w) X.A (pyIter (.ref s.heap.objs.size)) (PIE X pins σ tg R) E { s with heap := s.heap.push { cls := .type "range", data := .fields #[.int lo t, .int hi u, .int 1 v] }, toks := tk } := by
  refine wpAny_pyIter_range (IsRange.new ..) (small_one h1 h2 h3 h4) ?_
  have I1 : Inv X pins σ H { s with heap := s.heap.push { cls := .type "range", data := .fields #[.int lo t, .int hi u, .int 1 v] }, toks := tk } := I.kept fun b o e => Heap.get?_push_of_some _ e
  refine ⟨(s.heap.push { cls := .type "range", data := .fields #[.int lo t, .int hi u, .int 1 v] }).objs.size, [(s.heap.push { cls := .type "range", data := .fields #[.int lo t, .int hi u, .int 1 v] }).objs.size], _, _, H, rfl,
    I1.kept (t' := tk) fun b o e => Heap.get?_push_of_some _ e, turn_range _ lo (hi - lo).toNat, ?_, fun b hb => ?_, q⟩
  · have e1 : lo + ((0 : Nat) : Int) * 1 = lo := by simp
    have e2 : (((hi - lo).toNat : Nat) : Int) - ((0 : Nat) : Int) = Builtin.Range.rangeSize lo hi 1 := by rw [rangeSize_one]; split <;> omega
    show IsRangeIter _ _ (lo + ((0 : Nat) : Int) * 1) ((((hi - lo).toNat : Nat) : Int) - ((0 : Nat) : Int)) 1
    rw [e1, e2]
    exact Heap.get?_push_size _ rfl
  · have e : b = (s.heap.push { cls := .type "range", data := .fields #[.int lo t, .int hi u, .int 1 v] }).objs.size := by simpa using hb
    subst e
    exact I1.fpOk (Nat.le_refl _) (I1.hok.fresh (Nat.le_refl _))
def iRng1 (ta : TA) : TI := fun σ H R => ta σ H fun vs H1 => ∃ j : Int, vs = [.int j] ∧ -(2 ^ 62) ≤ j ∧ j < 2 ^ 62 ∧ R (Itr 0 j.toNat) H1
theorem pi_range1 {a : Expr} {ta : TA} {p pos : Pos} (hg : Gl X "range") (hm : X.mg "range" = none) (ha : PA X [a] ta) (hs : starEach [a] X.env = [(false, eval a X.env)] := by rfl) : PI X tg (.Call (.Name "range" p) [a] [] pos) (iRng1 ta) := by
  intro pins s σ H R I h
  refine Call_ (ld_blt I hg hm boot_range (PyProof.Rows.callWith_type1 (thn (ha pos pins s σ H _ I h) fun us s1 ⟨vs, H1, I1, r1, q1⟩ => ?_) hs rfl))
  obtain ⟨j, e, q1, q2, q⟩ := q1
  subst e
  cases r1 with
  | cons r rr =>
    cases rr
    obtain ⟨t, rfl⟩ := r
    exact call_range_1 (range_it I1 (by omega) (by omega) q1 q2 (by simpa using q))
/-! ### for -/
/-- W: the invariant by the turn and a measure; N: what the body is to reach -/
def tFor (wi : TI) (g : TG) (tb : TS) : TS := fun D σ H => wi σ H fun J H1 => ∃ W : Nat → Nat → St → Hp → Prop, (∃ m, W 0 m σ H1) ∧ ∀ i m σ H, W i m σ H →
  (J.stop i H ∧ D.nx σ H) ∨ (J.go i H ∧ ∃ N : St → Hp → Prop, (∀ σ' H', N σ' H' → ∃ m', m' < m ∧ W (i + 1) m' σ' H') ∧ ∀ x H', J.yld i H x H' → g x σ H' fun σ2 H2 => tb { D with nx := N, ct := N, bk := D.nx } σ2 H2)
/-- the records at fp as they stand -/
def pinsAt (fp : List Addr) (h : Heap) : List (Addr × Obj) := fp.filterMap fun b => (h.get? b).map fun o => (b, o)
theorem mem_pinsAt {fp : List Addr} {h : Heap} {b : Addr} {o : Obj} (hb : b ∈ fp) (e : h.get? b = some o) : (b, o) ∈ pinsAt fp h := List.mem_filterMap.mpr ⟨b, hb, by rw [e]; rfl⟩
theorem of_pinsAt {fp : List Addr} {h : Heap} {p : Addr × Obj} (hp : p ∈ pinsAt fp h) : p.1 ∈ fp ∧ h.get? p.1 = some p.2 := by
  obtain ⟨b, hb, e⟩ := List.mem_filterMap.mp hp
  cases q : h.get? b with
  | none => rw [q] at e; cases e
  | some o =>
    rw [q] at e
    have e' : (b, o) = p := Option.some.inj e
    subst e'
    exact ⟨hb, q⟩
theorem Inv.pinned {pins : List (Addr × Obj)} {σ : St} {H : Hp} {s : Shared} {fp : List Addr} (I : Inv X pins σ H s) (hf : ∀ b ∈ fp, FpOk X pins H b) (ho : ∀ b ∈ fp, ∃ o, s.heap.get? b = some o ∧ ∀ v, o.data ≠ .cell v) : Inv X (pins ++ pinsAt fp s.heap) σ H s :=
  I.pins_of fun p hp => (List.mem_append.mp hp).elim (fun z => I.pin p (List.mem_append_right _ z)) fun z => by
    obtain ⟨hb, e⟩ := of_pinsAt z
    obtain ⟨f0, f1, f2, _⟩ := hf p.1 hb
    obtain ⟨o, e', d⟩ := ho p.1 hb
    rw [e] at e'; cases e'
    exact ⟨e, f0, f1, f2, d⟩
theorem Inv.unpinned {pins pl : List (Addr × Obj)} {σ : St} {H : Hp} {s : Shared} (I : Inv X (pins ++ pl) σ H s) : Inv X pins σ H s := I.pins_of fun p hp => I.pin p (List.mem_append_right _ (List.mem_append_left _ hp))
theorem ps_for {iter : Expr} {body : List Stmt} {wi : TI} {g : TG} {tb : TS} {pos : Pos} (hp : PassesOwn (model X.prog X.w) X.A X.env X.xe) (hc : X.calm = true) (hi : PI X tg iter wi) (hg : PG X tg g) (hb : PSs X body tb)
    (hs : ∀ x, foldedSetIterable iter X.env x = pure x := by intro _; rfl) : PS X (.For tg iter body [] pos) (tFor wi g tb) := by
  intro pins s σ H D I h
  refine wpAny_For (thn (hi pins s σ H _ I h) fun v s1 h1 => thn h1 fun itv s2 h2 => ?_) hs
  obtain ⟨it, fp, tn, J, H2, e, I2, T, st2, f2, W, ⟨m0, w0⟩, turn⟩ := h2
  subst e
  -- what stays true of the iterator's objects through the loop
  have stat : ∀ {H' : Hp}, (∀ b ∈ fp, H' b = none) → ∀ b ∈ fp, FpOk X pins H' b := fun hn b hb => ⟨hn b hb, (f2 b hb).2⟩
  refine codeAny_forLoop_any (fun n s' => ∃ i σ' H', Inv X pins σ' H' s' ∧ tn i s'.heap ∧ (∀ b ∈ fp, H' b = none) ∧ W i n σ' H') ?_ m0 ⟨0, σ, H2, I2, st2, fun b hb => (f2 b hb).1, w0⟩
  rintro n s3 ⟨i, σ3, H3, I3, st3, fr3, w3⟩
  rcases turn i n σ3 H3 w3 with ⟨stop, qn⟩ | ⟨go, N, hN, step⟩
  · refine wpAny_passesOwn hp (thn (T.done X rfl rfl rfl hc i pins s3 σ3 H3 X.xe I3 (stat fr3) st3 stop) fun r s4 ⟨hr, I4⟩ => ?_)
    subst hr
    exact wpAny_execs_nil ⟨σ3, H3, I4, qn⟩
  · refine wpAny_passesOwn hp (thn (T.item X rfl rfl rfl hc i pins s3 σ3 H3 X.xe I3 (stat fr3) st3 go) fun r s4 ⟨u, hr, h4⟩ => ?_)
    subst hr
    refine wpAny_passesOwn hp (thn h4 fun _ s5 ⟨x, H5, I5, r5, y5, st5, fr5⟩ => ?_)
    have I5' := I5.pinned (stat fr5) (T.obj _ _ st5)
    refine wpAny_passesOwn hp (thn (hg _ s5 σ3 H5 x u _ I5' r5 (step x H5 y5)) fun _ s6 ⟨σ6, H6, I6, q6⟩ => ?_)
    refine wpAny_passesOwn hp (thn (hb _ s6 σ6 H6 _ I6 q6) fun f s7 q7 => ?_)
    have again : ∀ {σ7 : St} {H7 : Hp}, Inv X (pins ++ pinsAt fp s5.heap) σ7 H7 s7 → N σ7 H7 → ∃ m, m < n ∧ ∃ i σ' H', Inv X pins σ' H' s7 ∧ tn i s7.heap ∧ (∀ b ∈ fp, H' b = none) ∧ W i m σ' H' := fun {σ7 H7} I7 n7 => by
      obtain ⟨m', hm, w7⟩ := hN σ7 H7 n7
      refine ⟨m', hm, i + 1, σ7, H7, I7.unpinned, T.keep _ _ _ st5 fun b hb o e => (I7.pin (b, o) (List.mem_append_right _ (List.mem_append_right _ (mem_pinsAt hb e)))).1, fun b hb => ?_, w7⟩
      obtain ⟨o, e, d⟩ := T.obj _ _ st5 b hb
      exact (I7.pin (b, o) (List.mem_append_right _ (List.mem_append_right _ (mem_pinsAt hb e)))).2.1
    cases f with
    | next => obtain ⟨σ7, H7, I7, n7⟩ := q7; exact again I7 n7
    | cont => obtain ⟨σ7, H7, I7, n7⟩ := q7; exact again I7 n7
    | brk => obtain ⟨σ7, H7, I7, q7⟩ := q7; exact ⟨σ7, H7, I7.unpinned, q7⟩
    | ret v => obtain ⟨x7, σ7, H7, I7, r7, q7⟩ := q7; exact ⟨x7, σ7, H7, I7.unpinned, r7, q7⟩
end

/-! ### the forms one uses -/
/-- over a list that the body leaves as it is -/
theorem for_list {K : PySem.W.Frag} {a : Addr} {xs : List V} {g : TG} {tb : TS} {D : Ends} {σ : St} {H : Hp} (Pv : Nat → St → Hp → Prop) (h0 : Pv 0 σ H) (hl : ∀ i σ H, i ≤ xs.length → Pv i σ H → SqL K H a xs)
    (hs : ∀ i x σ H, xs[i]? = some x → Pv i σ H → g x σ H fun σ2 H2 => tb { D with nx := Pv (i + 1), ct := Pv (i + 1), bk := D.nx } σ2 H2) (hd : ∀ σ H, Pv xs.length σ H → D.nx σ H) :
    ∃ W : Nat → Nat → St → Hp → Prop, (∃ m, W 0 m σ H) ∧ ∀ i m σ H, W i m σ H →
      ((Itl K a).stop i H ∧ D.nx σ H) ∨ ((Itl K a).go i H ∧ ∃ N : St → Hp → Prop, (∀ σ' H', N σ' H' → ∃ m', m' < m ∧ W (i + 1) m' σ' H') ∧ ∀ x H', (Itl K a).yld i H x H' → g x σ H' fun σ2 H2 => tb { D with nx := N, ct := N, bk := D.nx } σ2 H2) := by
  refine ⟨fun i m σ H => m = xs.length - i ∧ i ≤ xs.length ∧ Pv i σ H, ⟨xs.length, by simp, Nat.zero_le _, h0⟩, ?_⟩
  rintro i m σ H ⟨rfl, hi, p⟩
  have q := hl i σ H hi p
  by_cases hlt : i < xs.length
  · refine .inr ⟨⟨xs, xs[i], q, by simp [hlt]⟩, Pv (i + 1), fun σ' H' p' => ⟨xs.length - (i + 1), by omega, rfl, hlt, p'⟩, fun x H' y => ?_⟩
    obtain ⟨e, y⟩ := y
    subst e
    exact hs i x σ _ (y xs q) p
  · have e : i = xs.length := by omega
    subst e
    exact .inl ⟨⟨xs, q, Nat.le_refl _⟩, hd σ H p⟩
theorem for_range {lo : Int} {n : Nat} {g : TG} {tb : TS} {D : Ends} {σ : St} {H : Hp} (Pv : Nat → St → Hp → Prop) (h0 : Pv 0 σ H)
    (hs : ∀ i σ H, i < n → Pv i σ H → g (.int (lo + i)) σ H fun σ2 H2 => tb { D with nx := Pv (i + 1), ct := Pv (i + 1), bk := D.nx } σ2 H2) (hd : ∀ σ H, Pv n σ H → D.nx σ H) :
    ∃ W : Nat → Nat → St → Hp → Prop, (∃ m, W 0 m σ H) ∧ ∀ i m σ H, W i m σ H →
      ((Itr lo n).stop i H ∧ D.nx σ H) ∨ ((Itr lo n).go i H ∧ ∃ N : St → Hp → Prop, (∀ σ' H', N σ' H' → ∃ m', m' < m ∧ W (i + 1) m' σ' H') ∧ ∀ x H', (Itr lo n).yld i H x H' → g x σ H' fun σ2 H2 => tb { D with nx := N, ct := N, bk := D.nx } σ2 H2) := by
  refine ⟨fun i m σ H => m = n - i ∧ i ≤ n ∧ Pv i σ H, ⟨n, by simp, Nat.zero_le _, h0⟩, ?_⟩
  rintro i m σ H ⟨rfl, hi, p⟩
  by_cases hlt : i < n
  · refine .inr ⟨hlt, Pv (i + 1), fun σ' H' p' => ⟨n - (i + 1), by omega, rfl, hlt, p'⟩, fun x H' y => ?_⟩
    obtain ⟨e, y⟩ := y
    subst e y
    exact hs i σ _ hlt p
  · have e : i = n := by omega
    subst e
    exact .inl ⟨Nat.le_refl _, hd σ H p⟩
end L2

namespace L2
open PySem PySem.Spec PyProof.Rows

abbrev R2 := V → V → Hp → VK → Prop
/-- a two-place operation on values: f is binaryOp op, inplaceOp op or compareOp op -/
def OpR (X : Cx) (f : Value → Value → Sem Value) (r : R2) : Prop :=
  ∀ (pins : List (Addr × Obj)) (s : Shared) (σ : St) (H : Hp) (x y : V) (v u : Value) (Q : VK), Inv X pins σ H s → RelV x v → RelV y u → r x y H Q →
    wpAny (model X.prog X.w) X.A (f v u) (EP X pins σ Q) X.xe s
/-- a one-place operation -/
def UnR (X : Cx) (f : Value → Sem Value) (r : V → Hp → VK → Prop) : Prop :=
  ∀ (pins : List (Addr × Obj)) (s : Shared) (σ : St) (H : Hp) (x : V) (v : Value) (Q : VK), Inv X pins σ H s → RelV x v → r x H Q →
    wpAny (model X.prog X.w) X.A (f v) (EP X pins σ Q) X.xe s
/-- a call of a value that is known (a builtin, a type) with values -/
def CallR (X : Cx) (f : Value) (r : List V → Hp → VK → Prop) : Prop :=
  ∀ (pins : List (Addr × Obj)) (s : Shared) (σ : St) (H : Hp) (xs : List V) (us : List Value) (Q : VK), Inv X pins σ H s → Vals xs us → r xs H Q →
    wpAny (model X.prog X.w) X.A (call f us) (EP X pins σ Q) X.xe s
def tOp (r : R2) (ta tb : TE) : TE := fun σ H Q => ta σ H fun x H1 => tb σ H1 fun y H2 => r x y H2 Q
def tUn (r : V → Hp → VK → Prop) (ta : TE) : TE := fun σ H Q => ta σ H fun x H1 => r x H1 Q
/-- ints in, under C, and a value out -/
def rI (C : Int → Int → Prop) (g : Int → Int → V) : R2 := fun x y H Q => ∃ i j, x = .int i ∧ y = .int j ∧ C i j ∧ Q (g i j) H
def rI0 (g : Int → Int → V) : R2 := fun x y H Q => ∃ i j, x = .int i ∧ y = .int j ∧ Q (g i j) H
def rU (g : Int → V) : V → Hp → VK → Prop := fun x H Q => ∃ i, x = .int i ∧ Q (g i) H

section
variable {X : Cx} {a b c : Expr} {ta tb tc : TE} {pos : Pos}

theorem binT (ha : PE X a ta) (hb : PE X b tb) {pins : List (Addr × Obj)} {s : Shared} {σ : St} {H : Hp} {R : V → V → Hp → Prop} (I : Inv X pins σ H s)
    (h : ta σ H fun x H1 => tb σ H1 fun y H2 => R x y H2) {Q : Value → Shared → Prop} {f : Value → Value → Sem Value}
    (hf : ∀ v u s2 x y H2, Inv X pins σ H2 s2 → RelV x v → RelV y u → R x y H2 → wpAny (model X.prog X.w) X.A (f v u) Q X.xe s2) :
    wpAny (model X.prog X.w) X.A (eval a X.env) (fun v s₁ => wpAny (model X.prog X.w) X.A (eval b X.env) (fun u s₂ => wpAny (model X.prog X.w) X.A (f v u) Q X.xe s₂) X.xe s₁) X.xe s := by
  refine thn (ha pins s σ H _ I h) fun v s1 ⟨x, H1, I1, r1, q1⟩ => ?_
  refine thn (hb pins s1 σ H1 _ I1 q1) fun u s2 ⟨y, H2, I2, r2, q2⟩ => ?_
  exact hf v u s2 x y H2 I2 r1 r2 q2

theorem pe_op {op : Operator} {r : R2} (ho : OpR X (binaryOp op) r) (ha : PE X a ta) (hb : PE X b tb) : PE X (.BinOp a op b pos) (tOp r ta tb) := by
  intro pins s σ H Q I h
  exact wpAny_BinOp (binT ha hb I h fun v u s2 x y H2 I2 rx ry q => ho pins s2 σ H2 x y v u Q I2 rx ry q)
theorem pe_un {op : UnaryOp} {r : V → Hp → VK → Prop} (ho : UnR X (unaryOp op) r) (ha : PE X a ta) : PE X (.UnaryOp op a pos) (tUn r ta) := by
  intro pins s σ H Q I h
  exact UnaryOp_ (thn (ha pins s σ H _ I h) fun v s1 ⟨x, H1, I1, r1, q1⟩ => ho pins s1 σ H1 x v Q I1 r1 q1)
/-! ### ints -/
theorem opI {f : Value → Value → Sem Value} {C : Int → Int → Prop} {g : Int → Int → Int}
    (rule : ∀ (i j : Int) (t u : Tok) (s : Shared) (Q : Value → Shared → Prop) (E : Value → Shared → Prop), C i j → Q (.int (g i j) s.toks) { s with toks := s.toks + 1 } → wpAny (model X.prog X.w) X.A (f (.int i t) (.int j u)) Q E s) :
    OpR X f (rI C fun i j => .int (g i j)) := by
  intro pins s σ H x y v u Q I rx ry h
  obtain ⟨i, j, rfl, rfl, hc, q⟩ := h
  obtain ⟨t, rfl⟩ := rx
  obtain ⟨t', rfl⟩ := ry
  exact rule i j t t' s _ _ hc ⟨.int (g i j), H, I.tok _, ⟨_, rfl⟩, q⟩
theorem opI0 {f : Value → Value → Sem Value} {g : Int → Int → Int}
    (rule : ∀ (i j : Int) (t u : Tok) (s : Shared) (Q : Value → Shared → Prop) (E : Value → Shared → Prop), Q (.int (g i j) s.toks) { s with toks := s.toks + 1 } → wpAny (model X.prog X.w) X.A (f (.int i t) (.int j u)) Q E s) :
    OpR X f (rI0 fun i j => .int (g i j)) := by
  intro pins s σ H x y v u Q I rx ry h
  obtain ⟨i, j, rfl, rfl, q⟩ := h
  obtain ⟨t, rfl⟩ := rx
  obtain ⟨t', rfl⟩ := ry
  exact rule i j t t' s _ _ ⟨.int (g i j), H, I.tok _, ⟨_, rfl⟩, q⟩
theorem opB0 {f : Value → Value → Sem Value} {g : Int → Int → Bool}
    (rule : ∀ (i j : Int) (t u : Tok) (s : Shared) (Q : Value → Shared → Prop) (E : Value → Shared → Prop), Q (.bool (g i j)) s → wpAny (model X.prog X.w) X.A (f (.int i t) (.int j u)) Q E s) :
    OpR X f (rI0 fun i j => .bl (g i j)) := by
  intro pins s σ H x y v u Q I rx ry h
  obtain ⟨i, j, rfl, rfl, q⟩ := h
  obtain ⟨t, rfl⟩ := rx
  obtain ⟨t', rfl⟩ := ry
  exact rule i j t t' s _ _ ⟨.bl (g i j), H, I, rfl, q⟩

def CMul (i j : Int) : Prop := (-(2 ^ 64) < i ∧ i < 2 ^ 64) ∨ (-(2 ^ 64) < j ∧ j < 2 ^ 64)
theorem CMul.ok {i j : Int} (h : CMul i j) : IntMulOk i j := by
  rcases h with ⟨h1, h2⟩ | ⟨h1, h2⟩
  · exact .of_left (intBits_le_64 h1 h2)
  · exact .of_right (intBits_le_64 h1 h2)
theorem op_add : OpR X (binaryOp .Add) (rI0 fun i j => .int (i + j)) := opI0 fun _ _ _ _ _ _ _ q => add_int q
theorem op_sub : OpR X (binaryOp .Sub) (rI0 fun i j => .int (i - j)) := opI0 fun _ _ _ _ _ _ _ q => sub_int q
theorem op_mul : OpR X (binaryOp .Mult) (rI CMul fun i j => .int (i * j)) := opI fun _ _ _ _ _ _ _ hc q => mul_int q hc.ok
theorem unI {f : Value → Sem Value} {g : Int → Int}
    (rule : ∀ (i : Int) (t : Tok) (s : Shared) (Q : Value → Shared → Prop) (E : Value → Shared → Prop), Q (.int (g i) s.toks) { s with toks := s.toks + 1 } → wpAny (model X.prog X.w) X.A (f (.int i t)) Q E s) :
    UnR X f (rU fun i => .int (g i)) := by
  intro pins s σ H x v Q I rx h
  obtain ⟨i, rfl, q⟩ := h
  obtain ⟨t, rfl⟩ := rx
  exact rule i t s _ _ ⟨.int (g i), H, I.tok _, ⟨_, rfl⟩, q⟩
theorem un_neg : UnR X (unaryOp .USub) (rU fun i => .int (-i)) := unI fun _ _ _ _ _ q => neg_int q
/-! ### bools among ints: n += (a < b) -/
end

/-! ### comparisons -/
/-- the scalars that == tells apart as data does -/
def scal : V → V → Bool
  | .non, .non => true | .non, .int _ => true | .int _, .non => true | .non, .bl _ => true | .bl _, .non => true | .non, .str _ => true | .str _, .non => true
  | .int _, .int _ => true | .bl _, .bl _ => true | .str _, .str _ => true | .byt _, .byt _ => true
  | .int _, .str _ => true | .str _, .int _ => true | .bl _, .str _ => true | .str _, .bl _ => true
  | _, _ => false
def rEq : R2 := fun x y H Q => scal x y = true ∧ Q (.bl (decide (x = y))) H
theorem dec_int {i j : Int} : decide (V.int i = V.int j) = (i == j) := by
  rw [Bool.eq_iff_iff]
  simp
theorem dec_bl {i j : Bool} : decide (V.bl i = V.bl j) = (i == j) := by
  rw [Bool.eq_iff_iff]
  simp
theorem dec_str {i j : Str} : decide (V.str i = V.str j) = (i == j) := by
  rw [Bool.eq_iff_iff]
  simp
theorem dec_byt {i j : Array UInt8} : decide (V.byt i = V.byt j) = (i.toList == j.toList) := by
  rw [Bool.eq_iff_iff]
  cases i
  cases j
  simp

section
variable {X : Cx} {a b c : Expr} {ta tb tc : TE} {pos : Pos}
theorem fin_bl {pins : List (Addr × Obj)} {σ : St} {H : Hp} {s : Shared} {Q : VK} {k k' : Bool} (I : Inv X pins σ H s) (q : Q (.bl k) H) (e : k = k') : EP X pins σ Q (.bool k') s := by
  subst e
  exact ⟨.bl k, H, I, rfl, q⟩
theorem op_eq : OpR X (compareOp .Eq) rEq := by
  intro pins s σ H x y v u Q I rx ry h
  obtain ⟨hs, q⟩ := h
  cases x with
  | non =>
    cases rx
    cases y with
    | non => cases ry; exact PySem.EqNone.eq_none_none (fin_bl I q (by simp))
    | bl j => cases ry; exact PySem.EqNone.eq_none_bool (fin_bl I q (by simp))
    | int j => obtain ⟨t', rfl⟩ := ry; exact PySem.EqNone.eq_none_int (fin_bl I q (by simp))
    | str j => obtain ⟨t', rfl⟩ := ry; exact PySem.EqNone.eq_none_str (fin_bl I q (by simp))
    | _ => exact absurd (show false = true from hs) Bool.false_ne_true
  | bl i =>
    cases rx
    cases y with
    | non => cases ry; exact PySem.EqNone.eq_bool_none (fin_bl I q (by simp))
    | bl j => cases ry; exact eq_bool (fin_bl I q dec_bl)
    | str j => obtain ⟨t', rfl⟩ := ry; exact PySem.EqMixed.eq_bool_str (fin_bl I q (by simp))
    | _ => exact absurd (show false = true from hs) Bool.false_ne_true
  | int i =>
    obtain ⟨t, rfl⟩ := rx
    cases y with
    | non => cases ry; exact PySem.EqNone.eq_int_none (fin_bl I q (by simp))
    | int j => obtain ⟨t', rfl⟩ := ry; exact eq_int (fin_bl I q dec_int)
    | str j => obtain ⟨t', rfl⟩ := ry; exact PySem.EqMixed.eq_int_str (fin_bl I q (by simp))
    | _ => exact absurd (show false = true from hs) Bool.false_ne_true
  | str i =>
    obtain ⟨t, rfl⟩ := rx
    cases y with
    | non => cases ry; exact PySem.EqNone.eq_str_none (fin_bl I q (by simp))
    | bl j => cases ry; exact PySem.EqMixed.eq_str_bool (fin_bl I q (by simp))
    | int j => obtain ⟨t', rfl⟩ := ry; exact PySem.EqMixed.eq_str_int (fin_bl I q (by simp))
    | str j => obtain ⟨t', rfl⟩ := ry; exact eq_str (fin_bl I q dec_str)
    | _ => exact absurd (show false = true from hs) Bool.false_ne_true
  | byt i =>
    obtain ⟨t, rfl⟩ := rx
    cases y with
    | byt j => obtain ⟨t', rfl⟩ := ry; exact PySem.W.eq_bytes (fin_bl I q dec_byt)
    | _ => exact absurd (show false = true from hs) Bool.false_ne_true
  | _ => cases y <;> exact absurd (show false = true from hs) Bool.false_ne_true
theorem op_lt : OpR X (compareOp .Lt) (rI0 fun i j => .bl (decide (i < j))) := opB0 fun _ _ _ _ _ _ _ q => lt_int q
theorem op_le : OpR X (compareOp .LtE) (rI0 fun i j => .bl (decide (i ≤ j))) := opB0 fun _ _ _ _ _ _ _ q => le_int q
theorem op_gt : OpR X (compareOp .Gt) (rI0 fun i j => .bl (decide (j < i))) := opB0 fun _ _ _ _ _ _ _ q => gt_int q
theorem op_ge : OpR X (compareOp .GtE) (rI0 fun i j => .bl (decide (j ≤ i))) := opB0 fun _ _ _ _ _ _ _ q => ge_int q
/-- two rules for one operation: by cases -/
theorem OpR.or {f : Value → Value → Sem Value} {r r' : R2} (h : OpR X f r) (h' : OpR X f r') : OpR X f (fun x y H Q => r x y H Q ∨ r' x y H Q) := by
  intro pins s σ H x y v u Q I rx ry q
  rcases q with q | q
  · exact h pins s σ H x y v u Q I rx ry q
  · exact h' pins s σ H x y v u Q I rx ry q

theorem nomark (b : Expr) {op : CmpOp} (h : op ≠ .In := by decide) (h2 : op ≠ .NotIn := by decide) : behindInMarks op b = false := by
  have e1 : (op == CmpOp.In) = false := by cases op <;> first | rfl | exact absurd rfl h
  have e2 : (op == CmpOp.NotIn) = false := by cases op <;> first | rfl | exact absurd rfl h2
  cases b <;> simp [behindInMarks, e1, e2]
/-- a comparison as a value; hm: nomark b, or (for in, not in) by with_unfolding_all rfl -/
theorem pe_cmpR {op : CmpOp} {r : R2} (ho : OpR X (compareOp op) r) (ha : PE X a ta) (hb : PE X b tb) (hm : behindInMarks op b = false) : PE X (.Compare a [op] [b] pos) (tOp r ta tb) := by
  intro pins s σ H Q I h
  exact wpAny_Compare1 (binT ha hb I h fun v u s2 x y H2 I2 rx ry q => ho pins s2 σ H2 x y v u Q I2 rx ry q) hm
/-- a reading of a value as a test -/
def tTest (t : TE) : TT := fun σ H Q => t σ H fun x H' => ∃ k, x = .bl k ∧ Q k H'
theorem pt_cmpR {op : CmpOp} {r : R2} (ho : OpR X (compareOp op) r) (ha : PE X a ta) (hb : PE X b tb) (hm : behindInMarks op b = false) : PT X (.Compare a [op] [b] pos) (tTest (tOp r ta tb)) := by
  intro pins s σ H Q I h
  refine wpAny_isTrue_Compare1 (thn (ha pins s σ H _ I h) fun v s1 ⟨x, H1, I1, r1, q1⟩ => thn (hb pins s1 σ H1 _ I1 q1) fun u s2 ⟨y, H2, I2, r2, q2⟩ =>
    thn (ho pins s2 σ H2 x y v u _ I2 r1 r2 q2) fun c s3 ⟨z, H3, I3, r3, k, e, q3⟩ => ?_) hm
  subst e
  cases r3
  exact wpAny_truthy_bool ⟨H3, I3, q3⟩
/-- a op1 b op2 c -/
def tChain (r r' : R2) (ta tb tc : TE) : TE := fun σ H Q => ta σ H fun x H1 => tb σ H1 fun y H2 => r x y H2 fun z H3 => ∃ k, z = .bl k ∧
  (if k = true then tc σ H3 fun w' H4 => r' y w' H4 Q else Q (.bl false) H3)
theorem pt_chain {op op' : CmpOp} {r r' : R2} (ho : OpR X (compareOp op) r) (ho' : OpR X (compareOp op') r') (ha : PE X a ta) (hb : PE X b tb) (hc : PE X c tc)
    (hm : lastMarks [op, op'] [b, c] = false := by with_unfolding_all rfl) : PT X (.Compare a [op, op'] [b, c] pos) (tTest (tChain r r' ta tb tc)) := by
  intro pins s σ H Q I h
  refine isTrue_chain (thn (ha pins s σ H _ I h) fun v s1 ⟨x, H1, I1, r1, q1⟩ => test_link (thn (hb pins s1 σ H1 _ I1 q1) fun u s2 ⟨y, H2, I2, r2, q2⟩ =>
    thn (ho pins s2 σ H2 x y v u _ I2 r1 r2 q2) fun d s3 ⟨z, H3, I3, r3, k, e, q3⟩ => ?_)) hm
  subst e
  cases r3
  refine wpAny_truthy_bool ?_
  cases k with
  | false =>
    obtain ⟨k', e', q'⟩ := q3
    cases e'
    exact ite_ff ⟨H3, I3, q'⟩
  | true =>
    refine ite_tt (test_last (thn (hc pins s3 σ H3 _ I3 q3) fun w' s4 ⟨z', H4, I4, r4, q4⟩ => thn (ho' pins s4 σ H4 y z' u w' _ I4 r2 r4 q4) fun d' s5 ⟨z2, H5, I5, r5, k2, e2, q5⟩ => ?_))
    subst e2
    cases r5
    exact wpAny_truthy_bool ⟨H5, I5, q5⟩

/-! ### truth -/
theorem line63 : (sizeLine : Nat) < 2 ^ 63 := by rw [sizeLine_eq]; decide
/-! ### strs and bytes -/
/-! ### scalar builtins, by CallR -/
theorem vals1 {x : V} {us : List Value} (r : Vals [x] us) : ∃ u, us = [u] ∧ RelV x u := by
  cases r with
  | cons r1 r2 => cases r2; exact ⟨_, rfl, r1⟩
theorem vals2 {x y : V} {us : List Value} (r : Vals [x, y] us) : ∃ u w', us = [u, w'] ∧ RelV x u ∧ RelV y w' := by
  cases r with
  | cons r1 r2 =>
    cases r2 with
    | cons r3 r4 => cases r4; exact ⟨_, _, rfl, r1, r3⟩
theorem call_abs : CallR X (.builtin "abs") (fun xs H Q => ∃ i, xs = [.int i] ∧ Q (.int (if i < 0 then -i else i)) H) := by
  intro pins s σ H xs us Q I r h
  obtain ⟨i, rfl, q⟩ := h
  obtain ⟨u, rfl, t, rfl⟩ := vals1 r
  exact call_abs_int fun u tk => ⟨.int (if i < 0 then -i else i), H, I.tok _, ⟨_, rfl⟩, q⟩
theorem call_max2 (hc : X.calm = true) : CallR X (.builtin "max") (fun xs H Q => ∃ i j, xs = [.int i, .int j] ∧ Q (.int (if j > i then j else i)) H) := by
  intro pins s σ H xs us Q I r h
  obtain ⟨i, j, rfl, q⟩ := h
  obtain ⟨u, w', rfl, ⟨t, rfl⟩, ⟨t', rfl⟩⟩ := vals2 r
  refine max_two_ints (I.ok.hd hc) fun h' tk k => ⟨_, H, I.kept k, ?_, q⟩
  by_cases hj : j > i
  · rw [if_pos hj, if_pos hj]; exact ⟨_, rfl⟩
  · rw [if_neg hj, if_neg hj]; exact ⟨_, rfl⟩
theorem call_min2 (hc : X.calm = true) : CallR X (.builtin "min") (fun xs H Q => ∃ i j, xs = [.int i, .int j] ∧ Q (.int (if j < i then j else i)) H) := by
  intro pins s σ H xs us Q I r h
  obtain ⟨i, j, rfl, q⟩ := h
  obtain ⟨u, w', rfl, ⟨t, rfl⟩, ⟨t', rfl⟩⟩ := vals2 r
  refine min_two_ints (I.ok.hd hc) fun h' tk k => ⟨_, H, I.kept k, ?_, q⟩
  by_cases hj : j < i
  · rw [if_pos hj, if_pos hj]; exact ⟨_, rfl⟩
  · rw [if_neg hj, if_neg hj]; exact ⟨_, rfl⟩
end
end L2

namespace L2
open PySem PySem.Spec PyProof.Rows

/-! ### an instance, its attributes a map -/
structure ObjM (h : Heap) (x dx C : Addr) (mA : Str → Option Value) : Prop where
  obj : h.get? x = some (PySem.W.instObj C dx)
  ns : h.Ns1 dx mA
  ne : dx ≠ x

theorem lookIn_ns {h : Heap} {dx : Addr} {mA : Str → Option Value} (n : h.Ns1 dx mA) : ∃ od, h.get? dx = some od ∧ ∀ name, PySem.W.lookIn name od = some (mA name) := by
  obtain ⟨o, es, ep, ho, hd, hk, _, hm⟩ := n
  refine ⟨o, ho, fun name => ?_⟩
  have e := hm name
  unfold nsFind findBy at e
  rw [← Array.find?_toList] at e
  unfold PySem.W.lookIn
  rw [hd]
  dsimp only
  split
  · rename_i y q
    rw [q] at e
    exact congrArg some e
  · rename_i q
    rw [q] at e
    have a : es.toList.any (·.refKey) = false := by
      rw [List.any_eq_false]
      intro y hy
      obtain ⟨z, t, hkey⟩ := hk y (Array.mem_toList_iff.mp hy)
      simp [DictEntry.refKey, hkey]
    have a' : ¬ es.toList.any (·.refKey) = true := by rw [a]; exact Bool.false_ne_true
    rw [if_neg a']
    exact congrArg some e

theorem ObjM.look {h : Heap} {x dx C : Addr} {mA : Str → Option Value} (I : ObjM h x dx C mA) : ∃ od, PySem.W.InstAt h x (PySem.W.instObj C dx) C (some od) ∧ ∀ name, PySem.W.lookIn name od = some (mA name) :=
  let ⟨od, ho, hl⟩ := lookIn_ns I.ns
  ⟨od, ⟨I.obj, rfl, rfl, ho⟩, hl⟩

section
variable {prog : Program} {w : World} {A : Around} {E : Value → Shared → Prop} {s : Shared} {K : PySem.W.Frag} {x dx C f : Addr} {mA : Str → Option Value} {name : Str} {v : Value}

theorem get_map {expr : Bool} {Q : Value → Shared → Prop} (X : K.In s.heap) (I : ObjM s.heap x dx C mA) (hg : PySem.W.plainGet K C name = true) (hh : PySem.W.hasDictIn K C = true)
    (ha : PySem.W.findIn K (.ref C) name = some none) (hv : mA name = some v) (hv' : PySem.W.handedIn v = true) (h : Q v { s with toks := s.toks + 1 }) :
    wpAny (model prog w) A (getAttr (.ref x) name expr) Q E s := by
  obtain ⟨od, J, hl⟩ := I.look
  exact PySem.W.get_value X J (PySem.W.plainGet_of hg).1 (PySem.W.findObj_own hh ha rfl (by rw [hl, hv])) hv' h

theorem get_meth {pl : Sem Bool} {Q : Value × List Value → Shared → Prop} (X : K.In s.heap) (I : ObjM s.heap x dx C mA) (hg : PySem.W.plainGet K C name = true)
    (hf : PySem.W.findIn K (.ref C) name = some (some (.ref f))) (ht : PySem.W.isFn K (.ref f) = true) (hv : mA name = none) (h : Q (.ref f, [.ref x]) s) :
    wpAny (model prog w) A (getMethod (.ref x) name pl) Q E s := by
  obtain ⟨od, J, hl⟩ := I.look
  exact PySem.W.method_fn X J (PySem.W.plainGet_of hg).1 (PySem.W.plainGet_of hg).2 hf (beq_iff_eq.mp ht) (by show (PySem.W.lookIn name od).map (·.isSome) = some false; rw [hl, hv]; rfl) h

theorem set_map {ns : List Str} {Q : Unit → Shared → Prop} (X : K.In s.heap) (I : ObjM s.heap x dx C mA)
    (hs : PySem.W.findIn K (.ref C) "__setattr__" = some (some (.builtin "object.__setattr__"))) (hp : PySem.W.plainOver K C = true) (ht : PySem.W.takerIn K C name = some none) (hh : PySem.W.hasDictIn K C = true)
    (hw : PySem.Within mA ns) (hsz : ns.length ≤ sizeLine)
    (h : ∀ h', ObjM h' x dx C (fun y => if y = name then some v else mA y) → Heap.SameBut dx s.heap h' → Q () { s with heap := h', toks := s.toks + 2 }) :
    wpAny (model prog w) A (setAttr (.ref x) name v) Q E s := by
  obtain ⟨od, J, hl⟩ := I.look
  refine PySem.W.set_plain X J hs (PySem.W.osa_open (s := { s with toks := s.toks + 1 }) (r := none) X J hp ht fun b => ?_)
  obtain ⟨cd, hc, hd'⟩ := PySem.W.any_some hh
  have hx : s.heap.get? x = some ⟨.ref C, some dx, .plain, #[]⟩ := I.obj
  refine wpAny_bind (wpAny_pure (wpAny_bind (wpAny_bind (wpAny_loadPart hx (wpAny_bind (PySem.W.Looks.here (s := { s with toks := s.toks + 1 }) (PySem.W.looks_clsIn X hc) ?_))))))
  rw [hd']
  refine wpAny_pure (a := some dx) (wpAny_bind (wpAny_pure (wpAny_bind ?_)))
  refine wpAny_nsSet1 (s := { s with toks := s.toks + 1 }) I.ns fun h' hn2 hs2 => ?_
  obtain ⟨oD, esD, epD, hoD, hdD, hcD⟩ := hn2.count (PySem.Within.cons name v hw)
  refine wpAny_bind (wpAny_lookBehind hoD (by rw [hdD]; exact pastItsLine_dict (Nat.le_trans hcD (by rw [List.length_cons]; omega))) ?_)
  exact wpAny_pure (h _ ⟨(hs2.2 _ (Ne.symm I.ne)).trans I.obj, hn2, I.ne⟩ hs2)

/-- C(..): the dict at the heap's end, the instance behind it; then its __init__ -/
theorem make_map {R : Result → Shared → Prop} {vs : List Value} {kw : List (Str × Value)} (X : K.In s.heap) (hm : PySem.W.makesIn K C = true)
    (hi : PySem.W.findIn K (.ref C) "__init__" = some (some (.ref f))) (hf : PySem.W.typeIn K (.ref f) = some (.type "function"))
    (h : codeAny (model prog w) (A.under (.builtin "type.__call__" ⟨.ref C :: vs, kw⟩)) (.call (.ref f) ⟨.ref (s.heap.objs.size + 1) :: vs, kw⟩) (PySem.W.InitBack (s.heap.objs.size + 1) R)
      { s with heap := (s.heap.push PySem.W.emptyDict).push (PySem.W.instObj C s.heap.objs.size) }) :
    codeAny (model prog w) A (.call (.ref C) ⟨vs, kw⟩) R s := by
  obtain ⟨hh, g, d, t, os⟩ := s
  exact PySem.W.make_core (PySem.W.makes_of X hm) (PySem.W.looks_findIn X hi) (fun self => PySem.W.bind_fn X self hf) (.inl rfl) h
end

/-! ### the attributes as a list of pairs -/
def putF (f : Str) (v : V) : List (Str × V) → List (Str × V)
  | [] => [(f, v)]
  | (g, x) :: r => if g = f then (g, v) :: r else (g, x) :: putF f v r
theorem lookup_putF (f g : Str) (v : V) : ∀ fs : List (Str × V), (putF f v fs).lookup g = if g = f then some v else fs.lookup g
  | [] => by
    show List.lookup g [(f, v)] = _
    by_cases h : g = f
    · have hb : (g == f) = true := beq_iff_eq.mpr h
      simp only [List.lookup, hb, if_pos h]
    · have hb : (g == f) = false := beq_eq_false_iff_ne.mpr h
      simp only [List.lookup, hb, if_neg h]
  | (k, x) :: r => by
    have ih := lookup_putF f g v r
    rw [show putF f v ((k, x) :: r) = (if k = f then (k, v) :: r else (k, x) :: putF f v r) from rfl]
    by_cases hk : k = f
    · rw [if_pos hk]
      by_cases h : g = k
      · have hb : (g == k) = true := beq_iff_eq.mpr h
        simp only [List.lookup, hb, if_pos (h.trans hk)]
      · have hb : (g == k) = false := beq_eq_false_iff_ne.mpr h
        simp only [List.lookup, hb, if_neg (fun e : g = f => h (e.trans hk.symm))]
    · rw [if_neg hk]
      by_cases h : g = k
      · have hb : (g == k) = true := beq_iff_eq.mpr h
        simp only [List.lookup, hb, if_neg (fun e : g = f => hk (h.symm.trans e))]
      · have hb : (g == k) = false := beq_eq_false_iff_ne.mpr h
        simp only [List.lookup, hb]
        exact ih
theorem keys_putF (f : Str) (v : V) : ∀ fs : List (Str × V), f ∈ (putF f v fs).map (·.1) ∧ ∀ g, g ∈ fs.map (·.1) → g ∈ (putF f v fs).map (·.1)
  | [] => ⟨by simp [putF], fun g h => by simp at h⟩
  | (k, x) :: r => by
    obtain ⟨i1, i2⟩ := keys_putF f v r
    rw [show putF f v ((k, x) :: r) = (if k = f then (k, v) :: r else (k, x) :: putF f v r) from rfl]
    by_cases hk : k = f
    · rw [if_pos hk]
      subst hk
      exact ⟨by simp, fun g h => by simpa using h⟩
    · rw [if_neg hk]
      refine ⟨?_, fun g h => ?_⟩
      · rw [List.map_cons]
        exact List.mem_cons_of_mem _ i1
      · rw [List.map_cons] at h ⊢
        rcases List.mem_cons.mp h with e | e
        · exact List.mem_cons.mpr (.inl e)
        · exact List.mem_cons_of_mem _ (i2 g e)
theorem length_putF (f : Str) (v : V) : ∀ fs : List (Str × V), (putF f v fs).length ≤ fs.length + 1
  | [] => by simp [putF]
  | (k, x) :: r => by
    have ih := length_putF f v r
    rw [show putF f v ((k, x) :: r) = (if k = f then (k, v) :: r else (k, x) :: putF f v r) from rfl]
    by_cases hk : k = f
    · rw [if_pos hk, List.length_cons, List.length_cons]; omega
    · rw [if_neg hk, List.length_cons, List.length_cons]; omega

theorem RelO.some_of {v : V} {o : Option Value} (r : RelO (some v) o) : ∃ u, o = some u ∧ RelV v u := by
  cases o with
  | none => exact (show False from r).elim
  | some u => exact ⟨u, rfl, r⟩
theorem RelO.none_of {o : Option Value} (r : RelO none o) : o = none := by
  cases o with
  | none => rfl
  | some u => exact (show False from r).elim
theorem handed_of {v : V} {u : Value} (r : RelV v u) : PySem.W.handedIn u = true := by
  cases v with
  | non => cases (show u = Value.none from r); rfl
  | bl b => cases (show u = Value.bool b from r); rfl
  | int i => obtain ⟨t, e⟩ := (show ∃ t, u = Value.int i t from r); cases e; rfl
  | str x => obtain ⟨t, e⟩ := (show ∃ t, u = Value.str x t from r); cases e; rfl
  | byt b => obtain ⟨t, e⟩ := (show ∃ t, u = Value.bytes b t from r); cases e; rfl
  | flt b => obtain ⟨t, e⟩ := (show ∃ t, u = Value.float b t from r); cases e; rfl
  | ref a => cases (show u = Value.ref a from r); rfl
  | ty n => cases (show u = Value.type n from r); rfl

section
variable {P : Program} {w : World} {H H' : Hp} {h h' : Heap} {a C dx : Addr} {fs fs' : List (Str × V)}
theorem ins_get (hok : HOk P w H h) (e : H a = some (.ins C dx fs)) : ∃ mA, ObjM h a dx C mA ∧ (∀ f, RelO (fs.lookup f) (mA f)) ∧ PySem.Within mA (fs.map (·.1)) ∧ fs.length ≤ 1000 ∧ H dx = some (.own a) := by
  obtain ⟨d, z, ne, ob, mA, n, r, q⟩ := (show ObjOk P w H h a (.ins C dx fs) from hok a _ e)
  exact ⟨mA, ⟨ob, n, ne⟩, r, q, z, d⟩
end

/-! ### what of the text a class must have -/
structure Cls (K : PySem.W.Frag) (C : Addr) : Prop where
  pg : PySem.W.plainGet K C Str.empty = true
  hd : PySem.W.hasDictIn K C = true
  po : PySem.W.plainOver K C = true
  sa : PySem.W.findIn K (.ref C) "__setattr__" = some (some (.builtin "object.__setattr__"))
theorem Cls.get {K : PySem.W.Frag} {C : Addr} (c : Cls K C) (f : Str) : PySem.W.plainGet K C f = true := c.pg
/-- no class of it has the name -/
def NoAttr (K : PySem.W.Frag) (C : Addr) (f : Str) : Prop := PySem.W.findIn K (.ref C) f = some none
theorem NoAttr.taker {K : PySem.W.Frag} {C : Addr} {f : Str} (n : NoAttr K C f) : PySem.W.takerIn K C f = some none := by
  unfold PySem.W.takerIn
  rw [show PySem.W.findIn K (.ref C) f = some none from n]
  rfl
/-- a method: a plain def of the class or of one above it -/
structure Meth (K : PySem.W.Frag) (C : Addr) (m : Str) (f : Addr) : Prop where
  at_ : PySem.W.findIn K (.ref C) m = some (some (.ref f))
  fn : PySem.W.isFn K (.ref f) = true
  kp : PySem.W.keepIn K (.ref f) = true

section
variable {X : Cx} {pins : List (Addr × Obj)} {σ : St} {H : Hp} {s : Shared} {a C dx : Addr} {fs : List (Str × V)} {f : Str} {v : V} {A : Around} {E : Value → Shared → Prop}

theorem getattr_ok {b : Bool} {Q : Value → Shared → Prop} (I : Inv X pins σ H s) (e : H a = some (.ins C dx fs)) (c : Cls X.K C) (n : NoAttr X.K C f) (l : fs.lookup f = some v)
    (h : ∀ u s', Inv X pins σ H s' → RelV v u → Q u s') : wpAny (model X.prog X.w) A (getAttr (.ref a) f b) Q E s := by
  obtain ⟨mA, O, r, _, _, _⟩ := ins_get I.hok e
  obtain ⟨u, hu, ru⟩ := RelO.some_of (v := v) (o := mA f) (by rw [← l]; exact r f)
  exact get_map I.kIn O (c.get f) c.hd n hu (handed_of ru) (h u _ (I.tok _) ru)

theorem getmeth_ok {m : Str} {g : Addr} {pl : Sem Bool} {Q : Value × List Value → Shared → Prop} (I : Inv X pins σ H s) (e : H a = some (.ins C dx fs)) (c : Cls X.K C) (k : Meth X.K C m g) (l : fs.lookup m = none)
    (h : Q (.ref g, [.ref a]) s) : wpAny (model X.prog X.w) A (getMethod (.ref a) m pl) Q E s := by
  obtain ⟨mA, O, r, _, _, _⟩ := ins_get I.hok e
  have hn : mA m = none := RelO.none_of (by rw [← l]; exact r m)
  exact get_meth I.kIn O (c.get m) k.at_ k.fn hn h

theorem setattr_ok {y : V} {u : Value} {Q : Unit → Shared → Prop} (I : Inv X pins σ H s) (e : H a = some (.ins C dx fs)) (c : Cls X.K C) (n : NoAttr X.K C f) (hl : fs.length < 1000) (ry : RelV y u)
    (h : ∀ s', Inv X pins σ (upd H a (.ins C dx (putF f y fs))) s' → Q () s') : wpAny (model X.prog X.w) A (setAttr (.ref a) f u) Q E s := by
  obtain ⟨mA, O, r, wi, _, ho⟩ := ins_get I.hok e
  have hz : (fs.map (·.1)).length ≤ sizeLine := by rw [List.length_map, sizeLine_eq]; omega
  refine set_map I.kIn O c.sa c.po n.taker c.hd wi hz fun h' O' sb => h _ ?_
  have hd : ∃ o, h'.get? dx = some o := let ⟨o, _, _, e', _⟩ := O'.ns; ⟨o, e'⟩
  refine I.write (x := a) (e := dx) (by rw [e]; exact True.intro) (.inr ho) (fun b q hb z => (sb.2 b hb).trans z) hd ?_
  refine ⟨by rw [upd_ne O.ne]; exact ho, ?_, O.ne, O'.obj, _, O'.ns, fun g => ?_, fun g hg => ?_⟩
  · have := length_putF f y fs; omega
  · show RelO ((putF f y fs).lookup g) (if g = f then some u else mA g)
    rw [lookup_putF]
    by_cases q : g = f
    · rw [if_pos q, if_pos q]; exact ry
    · rw [if_neg q, if_neg q]; exact r g
  · by_cases q : g = f
    · rw [q]; exact (keys_putF f y fs).1
    · refine (keys_putF f y fs).2 g (wi g fun z => hg ?_)
      show (if g = f then some u else mA g) = none
      rw [if_neg q]; exact z

/-- a new instance, tracked, without attributes -/
theorem Inv.made (I : Inv X pins σ H s) : Inv X pins σ (upd (upd H s.heap.objs.size (.own (s.heap.objs.size + 1))) (s.heap.objs.size + 1) (.ins C s.heap.objs.size []))
    { s with heap := (s.heap.push PySem.W.emptyDict).push (PySem.W.instObj C s.heap.objs.size) } := by
  have e1 : (s.heap.push PySem.W.emptyDict).get? s.heap.objs.size = some PySem.W.emptyDict := Heap.get?_push_size s.heap rfl
  have e2 : ((s.heap.push PySem.W.emptyDict).push (PySem.W.instObj C s.heap.objs.size)).get? (s.heap.objs.size + 1) = some (PySem.W.instObj C s.heap.objs.size) := by
    have := Heap.get?_push_size (s.heap.push PySem.W.emptyDict) (o := PySem.W.instObj C s.heap.objs.size) rfl
    rwa [Heap.size_push] at this
  have e3 : (s.heap.push PySem.W.emptyDict).Ns s.heap.objs.size (fun _ => none) := ⟨PySem.W.emptyDict, #[], _, e1, rfl, (fun e he => absurd he (by simp)), fun _ => rfl⟩
  have I1 := I.laid (a := s.heap.objs.size) (o := .own (s.heap.objs.size + 1)) (h' := s.heap.push PySem.W.emptyDict) (t' := s.toks) (fun b u q => Heap.get?_push_of_some _ q) (Nat.le_refl _) ⟨_, e1⟩
  refine I1.laid (a := s.heap.objs.size + 1) (o := .ins C s.heap.objs.size []) (t' := s.toks) (fun b u q => Heap.get?_push_of_some _ q) (Nat.le_of_eq (Heap.size_push _ _)) ?_
  have ne : s.heap.objs.size ≠ s.heap.objs.size + 1 := Nat.ne_of_lt (Nat.lt_succ_self _)
  refine ⟨by rw [upd_ne ne, upd_same], Nat.zero_le _, ne, e2, fun _ => none, (Heap.Ns1.of_empty e3).at fun o q => Heap.get?_push_of_some _ q, fun _ => True.intro, fun y hy => absurd rfl hy⟩

/-- e.f where nothing but the object is asked: through attributeBase (super) and the last hold -/
theorem attr_of {prog : Program} {w : World} {env : Env} {e : Expr} {f : Str} {pos : Pos} {s : Shared} {Q : Value → Shared → Prop} (hb : attributeBase e f env (eval e env) = eval e env)
    (h : wpAny (model prog w) A (eval e env) (fun o s₁ => wpAny (model prog w) A (getAttr o f true) Q E s₁) E s) : wpAny (model prog w) A (eval (.Attribute e f pos) env) Q E s :=
  Attribute_any_ h (by rw [arm_eval_Attribute, hb])
end

/-! ### readings and rules -/
/-- e.f, an attribute of the instance -/
def tFld (K : PySem.W.Frag) (ta : TE) (f : Str) : TE := fun σ H Q => ta σ H fun x H1 => ∃ a C dx fs v, x = .ref a ∧ H1 a = some (.ins C dx fs) ∧ Cls K C ∧ NoAttr K C f ∧ fs.lookup f = some v ∧ Q v H1
/-- e.f = value -/
def sFld (K : PySem.W.Frag) (ta tv : TE) (f : Str) : TS := fun D σ H => tv σ H fun y H1 => ta σ H1 fun x H2 => ∃ a C dx fs, x = .ref a ∧ H2 a = some (.ins C dx fs) ∧ Cls K C ∧ NoAttr K C f ∧ fs.length < 1000 ∧
  D.nx σ (upd H2 a (.ins C dx (putF f y fs)))
section
variable {X : Cx} {o e value : Expr} {f : Str} {pos pos' tpos : Pos} {ta tv : TE}
theorem pe_fld (he : PE X e ta) (hb : attributeBase e f X.env (eval e X.env) = eval e X.env) : PE X (.Attribute e f pos) (tFld X.K ta f) := by
  intro pins s σ H Q I h
  refine attr_of hb (thn (he pins s σ H _ I h) fun u s1 ⟨x, H1, I1, rx, a, C, dx, fs, v, ex, ea, c, n, l, q⟩ => ?_)
  subst ex
  obtain rfl : u = Value.ref a := rx
  exact getattr_ok I1 ea c n l fun u' s2 I2 ru => ⟨v, H1, I2, ru, q⟩
theorem ps_fld (ha : PE X o ta) (hv : PE X value tv) (hs : swapsWith value (some (.Attribute o f pos')) pos.line X.env = pure false) : PS X (.Assign [.Attribute o f pos'] value pos) (sFld X.K ta tv f) := by
  intro pins s σ H D I h
  refine plainObj_wpAny_Assign_Attribute (thn (hv pins s σ H _ I h) fun u s1 ⟨y, H1, I1, ry, q⟩ => thn (ha pins s1 σ H1 _ I1 q) fun ov s2 ⟨x, H2, I2, rx, a, C, dx, fs, ex, ea, c, n, l, q2⟩ => ?_) hs
  subst ex
  obtain rfl : ov = Value.ref a := rx
  exact setattr_ok I2 ea c n l ry fun s3 I3 => ⟨σ, _, I3, q2⟩
end

/-! ### isinstance -/
section
variable {X : Cx} {pins : List (Addr × Obj)} {σ : St} {H : Hp} {s : Shared} {A : Around} {E : Value → Shared → Prop} {Q : Value → Shared → Prop} {c : Value} {b : Bool}
end
end L2

namespace L2
open PySem PySem.Spec PyProof.Rows

/-! ### room -/
structure Room (k : Nat) (A : Around) : Prop where
  hd : A.handled = none
  dp : A.depth + 3 * k + 5 < recursionLimit
  un : A.units + 16 * k + 200 < cLine
theorem Room.mono {j k : Nat} {A : Around} (r : Room k A) (h : j ≤ k) : Room j A := ⟨r.hd, by have := r.dp; omega, by have := r.un; omega⟩
theorem Room.deeper {k : Nat} {A : Around} (r : Room (k + 1) A) (env : Env) : Room k (A.deeper env) :=
  ⟨r.hd, by have := r.dp; show A.depth + 1 + 3 * k + 5 < _; omega, by have := r.un; show A.units + 3 + 16 * k + 200 < _; omega⟩
theorem make_depth {A : Around} {C : Addr} {us : List Value} {kw : List (Str × Value)} : (A.under (.builtin "type.__call__" ⟨.ref C :: us, kw⟩)).depth = A.depth + 1 := by
  first | rfl | simp [Around.under, Code.weight, Code.isCreation, Code.isGuard, Code.isCaller, Code.frames, Code.isFrame, guardIds]
theorem make_units {A : Around} {C : Addr} {us : List Value} {kw : List (Str × Value)} : (A.under (.builtin "type.__call__" ⟨.ref C :: us, kw⟩)).units = A.units + 1 := by
  first | rfl | simp [Around.under, Code.cUnits, Code.frames, Code.isFrame]
theorem Room.make {k : Nat} {A : Around} (r : Room (k + 1) A) (C : Addr) (us : List Value) (kw : List (Str × Value)) : Room k (A.under (.builtin "type.__call__" ⟨.ref C :: us, kw⟩)) :=
  ⟨r.hd, by have := r.dp; rw [make_depth]; omega, by have := r.un; rw [make_units]; omega⟩
theorem Room.depth {k : Nat} {A : Around} (r : Room k A) : A.depth < recursionLimit := by have := r.dp; omega
theorem Room.units {k : Nat} {A : Around} (r : Room k A) : A.units + 64 < cLine := by have := r.un; omega
/-! ### argument lists and displays -/
def tNil : TA := fun _ H Q => Q [] H
def tCons (ta : TE) (tr : TA) : TA := fun σ H Q => ta σ H fun x H1 => tr σ H1 fun xs H2 => Q (x :: xs) H2
section
variable {X : Cx} {e : Expr} {es : List Expr} {te : TE} {t : TA} {pos : Pos}
theorem pa_nil : PA X [] tNil := fun _ _ _ _ H Q I h => Calls.spliced_nil ⟨[], H, I, .nil, h⟩
theorem pa_cons (ha : PE X e te) (hr : PA X es t) (hs : starEach (e :: es) X.env = (false, eval e X.env) :: starEach es X.env := by rfl) : PA X (e :: es) (tCons te t) := by
  intro pos pins s σ H Q I h
  rw [hs]
  show wpAny _ _ (spliced ((false, eval e X.env) :: backTo pos (starEach es X.env))) _ _ s
  refine Calls.spliced_cons (thn (ha pins s σ H _ I h) fun u s1 ⟨x, H1, I1, r1, q1⟩ => ?_)
  exact thn (hr pos pins s1 σ H1 _ I1 q1) fun us s2 ⟨xs, H2, I2, r2, q2⟩ => ⟨x :: xs, H2, I2, .cons r1 r2, q2⟩

/-- a tuple, a list of written items -/
def tTup (t : TA) : TE := fun σ H Q => t σ H fun xs H1 => xs.length ≤ sizeLine ∧ ∀ p, H1 p = none → Q (.ref p) (upd H1 p (.tup xs))
def tLst (t : TA) : TE := fun σ H Q => t σ H fun xs H1 => xs.length ≤ sizeLine ∧ ∀ p, H1 p = none → Q (.ref p) (upd H1 p (.lst xs))
theorem pe_tup {x1} (h : PA X es t) : PE X (.Tuple es x1 pos) (tTup t) := by
  intro pins s σ H Q I hq
  refine wpAny_Tuple_spliced (thn (h pos pins s σ H _ I hq) fun us s1 ⟨xs, H1, I1, r, z, q⟩ => ⟨by rw [← r.length]; exact z, ?_⟩)
  have hf : H1 s1.heap.objs.size = none := I1.hok.fresh (Nat.le_refl _)
  refine ⟨.ref s1.heap.objs.size, upd H1 s1.heap.objs.size (.tup xs), I1.laid (t' := s1.toks) (fun b u e => Heap.get?_push_of_some _ e) (Nat.le_refl _) ?_, rfl, q _ hf⟩
  exact ⟨z, us, r, ⟨_, Heap.get?_push_size _ rfl, rfl, _, rfl⟩⟩
theorem pe_lst (h : PA X es t) : PE X (.List es pos) (tLst t) := by
  intro pins s σ H Q I hq
  refine wpAny_List_spliced (thn (h pos pins s σ H _ I hq) fun us s1 ⟨xs, H1, I1, r, z, q⟩ => ⟨by rw [← r.length]; exact z, ?_⟩)
  have hf : H1 s1.heap.objs.size = none := I1.hok.fresh (Nat.le_refl _)
  refine ⟨.ref s1.heap.objs.size, upd H1 s1.heap.objs.size (.lst xs), I1.laid (t' := s1.toks) (fun b u e => Heap.get?_push_of_some _ e) (Nat.le_refl _) ?_, rfl, q _ hf⟩
  exact ⟨z, us, 0, r, Heap.get?_push_size _ rfl⟩
end

/-! ### what a def promises -/
/-- a def's promise: the bound arguments in the parameters' order, the heap, the wanted end, the wanted exception -/
abbrev Sp := List V → Hp → VK → XK → Prop
/-- how an exception lies behind a call (file 08 gives it): the callers' frames, abstract heap and state ahead of the call, the wish, the exception, the state -/
abbrev CXT := List Env → Hp → Shared → XK → Value → Shared → Prop

/-- the state at a call -/
structure Env0 (P : Program) (w : World) (K : PySem.W.Frag) (mg : Str → Option Value) (base : Heap) (A : Around) (outer : List Env) (s : Shared) (H : Hp) : Prop where
  frames : A.frames = some outer
  mod : Mod K mg base
  bs : ∀ b o, base.get? b = some o → s.heap.get? b = some o ∧ H b = none
  bsz : base.objs.size ≤ s.heap.objs.size
  funs : s.heap.FunFrames base outer
  frf : ∀ b ∈ frs outer, H b = none
  hok : HOk P w H s.heap
  bare : AllBare s.gens
/-- a call's end -/
def CE (outer : List Env) (P : Program) (w : World) (H : Hp) (s : Shared) (Q : VK) (u : Value) (s' : Shared) : Prop :=
  ∃ v H', s'.os = s.os ∧ AllBare s'.gens ∧ Un (frs outer) [] H H' s.heap s'.heap ∧ HOk P w H' s'.heap ∧ RelV v u ∧ Q v H'
def CR (CX : CXT) (outer : List Env) (P : Program) (w : World) (H : Hp) (s : Shared) (Q : VK) (E : XK) (r : Result) (s' : Shared) : Prop :=
  match r with
  | .ok (.ret u) => CE outer P w H s Q u s'
  | .ok _ => False
  | .error e => CX outer H s E e s'
structure FnOk (P : Program) (w : World) (K : PySem.W.Frag) (mg : Str → Option Value) (base : Heap) (CX : CXT) (k : Nat) (f : Addr) (fd : FuncData) (ps : List Str) (sp : Sp) : Prop where
  len : ∀ vs H Q E, sp vs H Q E → vs.length = ps.length
  run : ∀ (A : Around) (outer : List Env) (s : Shared) (H : Hp) (args : Args) (us : List Value) (vs : List V) (Q : VK) (E : XK), Room k A → Env0 P w K mg base A outer s H → BindsTo s fd args (ps.zip us) → Vals vs us → sp vs H Q E →
    codeAny (model P w) A (.call (.ref f) args) (CR CX outer P w H s Q E) s
theorem FnOk.mono {P : Program} {w : World} {K : PySem.W.Frag} {mg : Str → Option Value} {base : Heap} {CX : CXT} {j k : Nat} {f : Addr} {fd : FuncData} {ps : List Str} {sp : Sp} (F : FnOk P w K mg base CX j f fd ps sp) (h : j ≤ k) :
    FnOk P w K mg base CX k f fd ps sp := ⟨F.len, fun A outer s H args us vs Q E hr => F.run A outer s H args us vs Q E (hr.mono h)⟩
/-- a weaker promise -/
theorem FnOk.imp {P : Program} {w : World} {K : PySem.W.Frag} {mg : Str → Option Value} {base : Heap} {CX : CXT} {k : Nat} {f : Addr} {fd : FuncData} {ps : List Str} {sp sp' : Sp} (F : FnOk P w K mg base CX k f fd ps sp)
    (h : ∀ vs H Q E, sp' vs H Q E → sp vs H Q E) : FnOk P w K mg base CX k f fd ps sp' :=
  ⟨fun vs H Q E q => F.len vs H Q E (h _ _ _ _ q), fun A outer s H args us vs Q E hr he hb hv hs => F.run A outer s H args us vs Q E hr he hb hv (h _ _ _ _ hs)⟩

theorem Env0.make {P : Program} {w : World} {K : PySem.W.Frag} {mg : Str → Option Value} {base : Heap} {A : Around} {outer : List Env} {s : Shared} {H : Hp} (e : Env0 P w K mg base A outer s H) (C : Addr) (us : List Value) (kw : List (Str × Value)) :
    Env0 P w K mg base (A.under (.builtin "type.__call__" ⟨.ref C :: us, kw⟩)) outer s H := ⟨by first | exact e.frames | (simpa [Around.under, Code.envs, Code.isFrame, pushEnvs] using e.frames), e.mod, e.bs, e.bsz, e.funs, e.frf, e.hok, e.bare⟩
section
variable {X : Cx} {pins : List (Addr × Obj)} {σ : St} {H : Hp} {s s' : Shared}
/-- from a body: what a callee wants -/
theorem Inv.env0 (I : Inv X pins σ H s) : Env0 X.prog X.w X.K X.mg X.base X.A X.stack s H :=
  ⟨I.ok.frames, I.ok.mod, I.bs, Nat.le_trans I.ok.bsz I.sz, I.stack, I.stkFree, I.hok, I.bare⟩
/-- behind a call -/
theorem Inv.after {Q : VK} {u : Value} (I : Inv X pins σ H s) (h : CE X.stack X.prog X.w H s Q u s') : EP X pins σ Q u s' := by
  obtain ⟨v, H', os, bare, un, hok, r, q⟩ := h
  obtain ⟨hh, g, d, t, os'⟩ := s'
  obtain rfl : os' = s.os := os
  exact ⟨v, H', I.call (h' := hh) (g' := g) (d' := d) (t' := t) (ch := []) un hok bare (fun b z => absurd z (by simp)), r, q⟩
end

/-! ### calls -/
/-- f(..): the written arguments, then the defaults dvs; E: what is wanted of an exception -/
def tCall (sp : Sp) (dvs : List V) (E : XK) (t : TA) : TE := fun σ H Q => t σ H fun vs H1 => sp (vs ++ dvs) H1 Q E
/-- o.m(..) of an instance of the class at C -/
def tMeth (C : Addr) (m : Str) (sp : Sp) (dvs : List V) (E : XK) (ta : TE) (t : TA) : TE := fun σ H Q => ta σ H fun x H1 => ∃ a dx fs, x = .ref a ∧ H1 a = some (.ins C dx fs) ∧ fs.lookup m = none ∧
  t σ H1 fun vs H2 => sp (x :: (vs ++ dvs)) H2 Q E
/-- C(..): a new instance and its dict, then __init__ -/
def tMake (C : Addr) (sp : Sp) (dvs : List V) (E : XK) (t : TA) : TE := fun σ H Q => t σ H fun vs H1 => ∀ x dx, H1 x = none → H1 dx = none → dx ≠ x →
  sp (.ref x :: (vs ++ dvs)) (upd (upd H1 dx (.own x)) x (.ins C dx [])) (fun v H2 => v = .non ∧ Q (.ref x) H2) E

/-- how the parameters are bound: us the positional arguments, kw the keywords' values by name, ds the defaults that fill up -/
def Binds (K : PySem.W.Frag) (fd : FuncData) (ps : List Str) (ds : List Value) : Prop :=
  ∀ (s : Shared) (us : List Value), K.In s.heap → (us ++ ds).length = ps.length → BindsTo s fd ⟨us, []⟩ (ps.zip (us ++ ds))
/-- every parameter is given -/
theorem Binds.all {K : PySem.W.Frag} {fd : FuncData} {ps : List Str} (h : ∀ us : List Value, us.length = ps.length → bindArgs fd ⟨us, []⟩ = pure (ps.zip us)) : Binds K fd ps [] := fun s us _ hl => by
  rw [List.append_nil] at hl ⊢
  exact .of_eq (h us hl)

/-- an exception of a callee reaches what this body wants of exceptions -/
def Passes (CX : CXT) (X : Cx) (E : XK) : Prop := ∀ (pins : List (Addr × Obj)) (σ : St) (H : Hp) (s : Shared) (e : Value) (s' : Shared), Inv X pins σ H s → CX X.stack H s E e s' → X.xe e s'

section
variable {X : Cx} {CX : CXT} {k : Nat} {f C : Addr} {fd : FuncData} {ps : List Str} {sp : Sp} {dvs : List V} {ds : List Value} {E : XK} {x m : Str} {p pos apos : Pos} {e o : Expr} {es : List Expr} {ta : TE} {t : TA}

/-- the callee runs -/
theorem run_fn {pins : List (Addr × Obj)} {σ : St} {H : Hp} {s : Shared} {Q : VK} {us : List Value} {vs : List V} (F : FnOk X.prog X.w X.K X.mg X.base CX k f fd ps sp) (hr : Room k X.A) (hb : Binds X.K fd ps ds) (hd : Vals dvs ds) (hx : Passes CX X E)
    (I : Inv X pins σ H s) (r : Vals vs us) (h : sp (vs ++ dvs) H Q E) : wpAny (model X.prog X.w) X.A (call (.ref f) us) (EP X pins σ Q) X.xe s := by
  have r2 : Vals (vs ++ dvs) (us ++ ds) := r.append hd
  have hl : (us ++ ds).length = ps.length := by rw [← r2.length]; exact F.len _ _ _ _ h
  refine wpAny_call (codeAny_mono (F.run X.A X.stack s H ⟨us, []⟩ (us ++ ds) (vs ++ dvs) Q E hr I.env0 (hb s us I.kIn hl) r2 h) fun r s' hq => ?_)
  cases r with
  | error e => exact hx pins σ H s e s' I hq
  | ok fl =>
    cases fl with
    | ret u => exact I.after hq
    | next => exact False.elim hq
    | brk => exact False.elim hq
    | cont => exact False.elim hq

theorem pe_call (F : FnOk X.prog X.w X.K X.mg X.base CX k f fd ps sp) (hr : Room k X.A) (hg : Gl X x) (hm : X.mg x = some (.ref f)) (hk : PySem.W.keepIn X.K (.ref f) = true) (hb : Binds X.K fd ps ds) (hd : Vals dvs ds) (hx : Passes CX X E)
    (ha : PA X (e :: es) t) (hdb : (x == ("__debug__" : Str)) = false := by decide) (he : starEach (e :: es) X.env = (false, eval e X.env) :: starEach es X.env := by rfl) (hpl : (backTo pos (starEach es X.env)).any (·.1) = false := by rfl) :
    PE X (.Call (.Name x p) (e :: es) [] pos) (tCall sp dvs E t) := by
  intro pins s σ H Q I h
  refine wpAny_Call_Name_kw (ld_glob I hg hm ?_ hdb)
  refine PySem.W.callWith_K (h₀ := X.base) I.ok.mod.kin hk (thn (ha pos pins s σ H _ I h) fun us s1 ⟨vs, H1, I1, r, q⟩ => ⟨I1.kIn, ?_⟩) he hpl
  exact run_fn F hr hb hd hx I1 r q
/-- o.m(e, ..) -/
theorem pe_meth {pl : Sem Bool} (he : PE X o ta) (c : Cls X.K C) (hm : Meth X.K C m f) (F : FnOk X.prog X.w X.K X.mg X.base CX k f fd ps sp) (hr : Room k X.A) (hb : Binds X.K fd ps ds) (hd : Vals dvs ds) (hx : Passes CX X E) (ha : PA X (e :: es) t)
    (hst : starEach (e :: es) X.env = (false, eval e X.env) :: starEach es X.env := by rfl) (hpl : (backTo pos (starEach es X.env)).any (·.1) = false := by rfl)
    (ht : eval (.Call (.Attribute o m apos) (e :: es) [] pos) X.env = (do
      let ov ← eval o X.env
      standAt apos.atName
      let (f, first) ← holding [ov] (getMethod ov m pl)
      callWith pos f first (backTo pos (starEach (e :: es) X.env)) (backToKw pos (keywordEach [] X.env))) := by rfl) :
    PE X (.Call (.Attribute o m apos) (e :: es) [] pos) (tMeth C m sp dvs E ta t) := by
  intro pins s σ H Q I h
  refine PySem.W.methodCall_KW (pl := pl) (thn (he pins s σ H _ I h) fun u s1 ⟨x, H1, I1, rx, a, dx, fs, ex, ea, l, q⟩ => ?_) ht
  subst ex
  obtain rfl : u = Value.ref a := rx
  refine getmeth_ok I1 ea c hm l ?_
  refine PySem.W.callWith_K (first := [.ref a]) (h₀ := X.base) I.ok.mod.kin hm.kp (thn (ha pos pins s1 σ H1 _ I1 q) fun us s2 ⟨vs, H2, I2, r, q2⟩ => ⟨I2.kIn, ?_⟩) hst hpl
  exact run_fn (us := .ref a :: us) (vs := .ref a :: vs) F hr hb hd hx I2 (.cons rfl r) q2
/-- o.m() -/
theorem pe_meth0 {pl : Sem Bool} (he : PE X o ta) (c : Cls X.K C) (hm : Meth X.K C m f) (F : FnOk X.prog X.w X.K X.mg X.base CX k f fd ps sp) (hr : Room k X.A) (hb : Binds X.K fd ps ds) (hd : Vals dvs ds) (hx : Passes CX X E)
    (ht : eval (.Call (.Attribute o m apos) [] [] pos) X.env = (do
      let ov ← eval o X.env
      standAt apos.atName
      let (f, first) ← holding [ov] (getMethod ov m pl)
      callWith pos f first (backTo pos (starEach [] X.env)) (backToKw pos (keywordEach [] X.env))) := by rfl) :
    PE X (.Call (.Attribute o m apos) [] [] pos) (tMeth C m sp dvs E ta tNil) := by
  intro pins s σ H Q I h
  refine PySem.W.methodCall_KW (pl := pl) (thn (he pins s σ H _ I h) fun u s1 ⟨x, H1, I1, rx, a, dx, fs, ex, ea, l, q⟩ => ?_) ht
  subst ex
  obtain rfl : u = Value.ref a := rx
  refine getmeth_ok I1 ea c hm l ?_
  exact PySem.W.callWith_K0 (first := [.ref a]) I1.kIn hm.kp (run_fn (us := [.ref a]) (vs := [.ref a]) F hr hb hd hx I1 (.cons rfl .nil) q)

/-- what a class must have to be made -/
structure Mk (K : PySem.W.Frag) (C f : Addr) : Prop where
  makes : PySem.W.makesIn K C = true
  init : PySem.W.findIn K (.ref C) "__init__" = some (some (.ref f))
  fn : PySem.W.isFn K (.ref f) = true
  kp : PySem.W.keepIn K (.ref C) = true

theorem run_make {pins : List (Addr × Obj)} {σ : St} {H : Hp} {s : Shared} {Q : VK} {us : List Value} {vs : List V} (M : Mk X.K C f) (F : FnOk X.prog X.w X.K X.mg X.base CX k f fd ps sp) (hr : Room (k + 1) X.A) (hb : Binds X.K fd ps ds) (hd : Vals dvs ds)
    (hx : Passes CX X E) (I : Inv X pins σ H s) (r : Vals vs us)
    (h : ∀ x dx, H x = none → H dx = none → dx ≠ x → sp (.ref x :: (vs ++ dvs)) (upd (upd H dx (.own x)) x (.ins C dx [])) (fun v H2 => v = .non ∧ Q (.ref x) H2) E) :
    wpAny (model X.prog X.w) X.A (call (.ref C) us) (EP X pins σ Q) X.xe s := by
  have hq := h (s.heap.objs.size + 1) s.heap.objs.size (I.hok.fresh (Nat.le_succ _)) (I.hok.fresh (Nat.le_refl _)) (Nat.ne_of_lt (Nat.lt_succ_self _))
  have I2 := Inv.made (C := C) I
  have r2 : Vals (V.ref (s.heap.objs.size + 1) :: (vs ++ dvs)) (Value.ref (s.heap.objs.size + 1) :: (us ++ ds)) := .cons rfl (r.append hd)
  have hl : (Value.ref (s.heap.objs.size + 1) :: us ++ ds).length = ps.length := by
    have e := r2.length
    rw [F.len _ _ _ _ hq] at e
    exact e.symm
  refine wpAny_call (make_map (f := f) I.kIn M.makes M.init (beq_iff_eq.mp M.fn) (codeAny_mono (F.run _ X.stack _ _ ⟨Value.ref (s.heap.objs.size + 1) :: us, []⟩ (Value.ref (s.heap.objs.size + 1) :: (us ++ ds)) _ _ E (hr.make C us [])
    (I2.env0.make C us []) (hb _ (Value.ref (s.heap.objs.size + 1) :: us) I2.kIn hl) r2 hq) fun r s' hq' => ?_))
  cases r with
  | error e => exact hx pins σ _ _ e s' I2 hq'
  | ok fl =>
    cases fl with
    | ret u =>
      obtain ⟨v, H', I3, rv, ev, q3⟩ := I2.after hq'
      subst ev
      exact ⟨rv, ⟨V.ref (s.heap.objs.size + 1), H', I3, rfl, q3⟩⟩
    | next => exact False.elim hq'
    | brk => exact False.elim hq'
    | cont => exact False.elim hq'
theorem pe_make (M : Mk X.K C f) (F : FnOk X.prog X.w X.K X.mg X.base CX k f fd ps sp) (hr : Room (k + 1) X.A) (hg : Gl X x) (hm : X.mg x = some (.ref C)) (hb : Binds X.K fd ps ds) (hd : Vals dvs ds) (hx : Passes CX X E)
    (ha : PA X (e :: es) t) (hdb : (x == ("__debug__" : Str)) = false := by decide) (he : starEach (e :: es) X.env = (false, eval e X.env) :: starEach es X.env := by rfl) (hpl : (backTo pos (starEach es X.env)).any (·.1) = false := by rfl) :
    PE X (.Call (.Name x p) (e :: es) [] pos) (tMake C sp dvs E t) := by
  intro pins s σ H Q I h
  refine wpAny_Call_Name_kw (ld_glob I hg hm ?_ hdb)
  refine PySem.W.callWith_K (h₀ := X.base) I.ok.mod.kin M.kp (thn (ha pos pins s σ H _ I h) fun us s1 ⟨vs, H1, I1, r, q⟩ => ⟨I1.kIn, ?_⟩) he hpl
  exact run_make M F hr hb hd hx I1 r q
theorem pe_make0 (M : Mk X.K C f) (F : FnOk X.prog X.w X.K X.mg X.base CX k f fd ps sp) (hr : Room (k + 1) X.A) (hg : Gl X x) (hm : X.mg x = some (.ref C)) (hb : Binds X.K fd ps ds) (hd : Vals dvs ds) (hx : Passes CX X E)
    (hdb : (x == ("__debug__" : Str)) = false := by decide) : PE X (.Call (.Name x p) [] [] pos) (tMake C sp dvs E tNil) := by
  intro pins s σ H Q I h
  refine wpAny_Call_Name_kw (ld_glob I hg hm ?_ hdb)
  exact PySem.W.callWith_K0 I.kIn M.kp (run_make (us := []) M F hr hb hd hx I .nil h)
end

/-! ### keywords -/
section
variable {X : Cx} {CX : CXT} {k : Nat} {f C : Addr} {fd : FuncData} {ps ks : List Str} {sp : Sp} {E : XK} {x m : Str} {p pos apos kpos : Pos} {e o : Expr} {es : List Expr} {kws : List Keyword} {te ta : TE} {t tk : TA} {nm : Option Str}
variable {g : List Value → List Value → List Value} {gV : List V → List V → List V}
end

/-! ### a def's body keeps its promise -/
/-- names: the parameters first -/
structure FnScope (N P : List Str) (sc : Scope) : Prop where
  kind : sc.kind = .function
  co : sc.isCoroutine = false
  gen : sc.isGenerator = false
  nd : N.Nodup
  pre : N.take P.length = P
  par : ∀ x ∈ P, sc.names.lookup x = some .local ∨ sc.names.lookup x = some .cell
  nofree : ∀ y ∈ sc.names, y.2 ≠ .free

theorem bindL_out {kindOf : Str → Option NameKind} {x : Str} : ∀ {binds : List (Str × Value)} {m : Str → Option Value}, (∀ v, (x, v) ∉ binds) → bindL kindOf binds m x = m x
  | [], _, _ => rfl
  | (n, v) :: r, m, h => by
    unfold bindL
    rw [bindL_out fun w hw => h w (List.mem_cons_of_mem _ hw)]
    split
    · have : x ≠ n := by rintro rfl; exact h v List.mem_cons_self
      simp [this]
    · rfl
theorem bindC_out {kindOf : Str → Option NameKind} {x : Str} : ∀ {binds : List (Str × Value)} {m : Str → Option Value}, (∀ v, (x, v) ∉ binds) → bindC kindOf binds m x = m x
  | [], _, _ => rfl
  | (n, v) :: r, m, h => by
    unfold bindC
    rw [bindC_out fun w hw => h w (List.mem_cons_of_mem _ hw)]
    split
    · rfl
    · have : x ≠ n := by rintro rfl; exact h v List.mem_cons_self
      simp [this]
theorem bindL_get {kindOf : Str → Option NameKind} {x : Str} {v : Value} : ∀ {P : List Str} {vs : List Value} {i : Nat} {m : Str → Option Value}, P.Nodup → P[i]? = some x → vs[i]? = some v → kindOf x = some .local →
    bindL kindOf (P.zip vs) m x = some v
  | [], _, _, _, _, h, _, _ => by simp at h
  | _ :: _, [], _, _, _, _, h, _ => by simp at h
  | p :: P, w :: vs, 0, m, nd, h1, h2, hk => by
    simp at h1 h2; subst h1; subst h2
    show bindL kindOf ((p, w) :: P.zip vs) m p = _
    unfold bindL
    rw [bindL_out fun v hv => (List.nodup_cons.mp nd).1 (List.of_mem_zip hv).1, if_pos hk]
    simp
  | p :: P, w :: vs, i + 1, m, nd, h1, h2, hk => by
    show bindL kindOf ((p, w) :: P.zip vs) m x = _
    unfold bindL
    exact bindL_get (i := i) (List.nodup_cons.mp nd).2 (by simpa using h1) (by simpa using h2) hk
theorem bindC_get {kindOf : Str → Option NameKind} {x : Str} {v : Value} : ∀ {P : List Str} {vs : List Value} {i : Nat} {m : Str → Option Value}, P.Nodup → P[i]? = some x → vs[i]? = some v → kindOf x ≠ some .local →
    bindC kindOf (P.zip vs) m x = some v
  | [], _, _, _, _, h, _, _ => by simp at h
  | _ :: _, [], _, _, _, _, h, _ => by simp at h
  | p :: P, w :: vs, 0, m, nd, h1, h2, hk => by
    simp at h1 h2; subst h1; subst h2
    show bindC kindOf ((p, w) :: P.zip vs) m p = _
    unfold bindC
    rw [bindC_out fun v hv => (List.nodup_cons.mp nd).1 (List.of_mem_zip hv).1, if_neg hk]
    simp
  | p :: P, w :: vs, i + 1, m, nd, h1, h2, hk => by
    show bindC kindOf ((p, w) :: P.zip vs) m x = _
    unfold bindC
    exact bindC_get (i := i) (List.nodup_cons.mp nd).2 (by simpa using h1) (by simpa using h2) hk

/-- the names' values at the entry -/
def start (N : List Str) (vs : List V) : St := vs.map some ++ List.replicate (N.length - vs.length) none

/-- the context of a def's body, at its entry; an exception leaves the frame, then lies as CX says -/
def cxOf (CX : CXT) (P : Program) (w : World) (K : PySem.W.Frag) (mg : Str → Option Value) (base : Heap) (N : List Str) (qual : Str) (scope : Scope) (f : Addr) (cd : Value) (A : Around) (outer : List Env) (s : Shared) (H : Hp) (E : XK) : Cx where
  prog := P
  w := w
  K := K
  mg := mg
  base := base
  A := A.deeper (envOfC qual scope s.heap.objs.size f cd)
  N := N
  s_0 := s
  H_0 := H
  env := envOfC qual scope s.heap.objs.size f cd
  outer := outer
  stack := envOfC qual scope s.heap.objs.size f cd :: outer
  ex := []
  calm := true
  fn := fun _ => true
  pn := []
  xe := fun e s' => wpAny (model P w) (A.deeper (envOfC qual scope s.heap.objs.size f cd)) (leaving (envOfC qual scope s.heap.objs.size f cd) e) (fun _ s'' => CX outer H s E e s'') (fun e' s'' => CX outer H s E e' s'') s'

theorem cell_has {sc : Scope} {n : Nat} {x : Str} (h : sc.names.lookup x = some .cell) : ∃ c, (cellsFrom n sc.names []).lookup x = some c := by
  have q := PySem.W.cellsFrom_some sc.names n [] (.inl h)
  exact Option.isSome_iff_exists.mp q

theorem inv_start {CX : CXT} {P : Program} {w : World} {K : PySem.W.Frag} {mg : Str → Option Value} {base : Heap} {N ps : List Str} {qual : Str} {scope : Scope} {f : Addr} {cd : Value} {A : Around} {outer : List Env} {s s1 : Shared} {H : Hp} {E : XK} {us : List Value} {vs : List V}
    (S : FnScope N ps scope) (hd : A.handled = none) (e0 : Env0 P w K mg base A outer s H) (hl : vs.length = ps.length) (r : Vals vs us)
    (x : InCallC s s.heap.objs.size (bindL (envOfC qual scope s.heap.objs.size f cd).kindOf (ps.zip us) fun _ => none) (cellsFrom (s.heap.objs.size + 1) scope.names []) (bindC (envOfC qual scope s.heap.objs.size f cd).kindOf (ps.zip us) fun _ => none) s1) :
    Inv (cxOf CX P w K mg base N qual scope f cd A outer s H E) [] (start N vs) H s1 := by
  have hpl : ps.length ≤ N.length := by have := congrArg List.length S.pre; rw [List.length_take] at this; omega
  obtain ⟨h1, tk, rfl, hk⟩ := x.done
  have noA : ∀ b : Addr, b ∉ (cxOf CX P w K mg base N qual scope f cd A outer s H E).ex := fun b z => absurd (show b ∈ ([] : List Addr) from z) (by simp)
  refine ⟨⟨e0.mod, S.kind, rfl, rfl, Nat.le_refl _, fun y z c h1 h2 => ?_, fun y hy => ?_, fun y c _ h => ?_, fun _ => hd, Around.frames_deeper e0.frames, .inr ⟨rfl, rfl⟩, fun b z => absurd z (noA b), e0.bs, e0.bsz, fun b _ _ => noA b, fun b z => absurd z (noA b), e0.funs, e0.frf⟩,
    rfl, e0.bare, Un.kept hk, ⟨_, x.toInCall.ns, fun i y v h1 h2 h3 => ?_⟩, fun y c h => ⟨_, x.cell y c h⟩, e0.hok.fresh (Nat.le_refl _), fun y c h => ?_, fun p hp => absurd (show p ∈ ([] : List (Addr × Obj)) from hp) (by simp), e0.hok.kept hk, ?_⟩
  · exact name_of_addr x.apart (PySem.mem_of_lookup h1) (PySem.mem_of_lookup h2)
  · have hy : scope.names.lookup y = some .cell ∨ scope.names.lookup y = some .free := hy
    rcases hy with hy | hy
    · exact cell_has hy
    · exact absurd rfl (S.nofree _ (PySem.mem_of_lookup hy))
  · exact Nat.le_of_lt (x.above y c (PySem.mem_of_lookup h))
  · have hi : i < vs.length := by
      unfold start at h2
      by_cases hi : i < vs.length
      · exact hi
      · rw [List.getElem?_append_right (by simpa using hi)] at h2
        rw [List.getElem?_replicate] at h2
        split at h2 <;> cases h2
    have ha : vs[i]? = some v := by
      unfold start at h2
      rw [List.getElem?_append_left (by simpa using hi), List.getElem?_map] at h2
      cases e : vs[i]? with
      | none => rw [e] at h2; cases h2
      | some a => rw [e] at h2; cases h2; rfl
    obtain ⟨u, hu, rv⟩ := r.get ha
    have hp : ps[i]? = some y := by
      rw [← S.pre, List.getElem?_take_of_lt (by omega)]; exact h1
    have ndP : ps.Nodup := by rw [← S.pre]; exact S.nd.sublist (List.take_sublist _ _)
    refine ⟨u, rv, ?_⟩
    rcases S.par y (List.mem_of_getElem? hp) with k | k
    · exact .inl ⟨k, bindL_get ndP hp hu k⟩
    · obtain ⟨c, e⟩ := cell_has (n := s.heap.objs.size + 1) k
      refine .inr ⟨.inl k, c, e, ?_⟩
      have q := x.cell y c e
      rw [bindC_get ndP hp hu (by show scope.names.lookup y ≠ _; rw [k]; decide)] at q
      exact q
  · exact e0.hok.fresh (Nat.le_of_lt (x.above y c (PySem.mem_of_lookup h)))
  · unfold start
    show _ = N.length
    rw [List.length_append, List.length_map, List.length_replicate]
    omega

/-- THE RULE: a def (or a method) of the text, by its body. The body's reading t is chosen for each entry; it is run at the parameters' values -/
theorem fn_of {CX : CXT} {P : Program} {w : World} {K : PySem.W.Frag} {mg : Str → Option Value} {base : Heap} {k : Nat} {f : Addr} {name qual : Str} {params : Arguments} {body : List Stmt} {scope : Scope} {dV kV doc pm cdv ct oc : Value} {an od : Option Addr}
    {osl : Array (Option Value)} {N ps : List Str} {sp : Sp} (lk : K.lookup f = some ⟨oc, od, .func (PySem.W.fnOf name qual params body scope dV kV doc pm an cdv ct), osl⟩) (hcd : PySem.W.codeIn K cdv qual = true) (S : FnScope N ps scope)
    (len : ∀ vs H Q E, sp vs H Q E → vs.length = ps.length)
    (hbody : ∀ (A : Around) (outer : List Env) (s : Shared) (H : Hp) (vs : List V) (Q : VK) (E : XK), Room k (A.deeper (envOfC qual scope s.heap.objs.size f cdv)) → sp vs H Q E →
      ∃ t, PSs (cxOf CX P w K mg base N qual scope f cdv A outer s H E) body t ∧ t { nx := fun _ H' => Q .non H', rt := Q } (start N vs) H) :
    FnOk P w K mg base CX (k + 1) f (PySem.W.fnOf name qual params body scope dV kV doc pm an cdv ct) ps sp := by
  refine ⟨len, fun A outer s H args us vs Q E hr e0 hb r hsp => ?_⟩
  have hl := len _ _ _ _ hsp
  have KX : K.In s.heap := e0.mod.kin.keeps fun b o e => (e0.bs b o e).1
  have lim : s.heap.NoLimit := e0.mod.nolimit.keeps fun b o e => (e0.bs b o e).1
  have hkind : ∀ y ∈ ps.zip us, scope.names.lookup y.1 = some .local ∨ (scope.names.lookup y.1 = some .cell ∧ ((cellsFrom (s.heap.objs.size + 1) scope.names []).lookup y.1).isSome = true) := fun ⟨n, v⟩ hy => by
    rcases S.par n (List.of_mem_zip hy).1 with q | q
    · exact .inl q
    · exact .inr ⟨q, PySem.W.cellsFrom_some _ _ _ (.inl q)⟩
  refine codeAny_call_function hr.depth (KX _ _ lk) rfl S.co S.gen rfl (PySem.W.codeRec_of KX hcd) (hb _ _ _ _ ?_)
  refine wpAny_newFunctionEnv_cells S.kind hkind fun env he s1 x => ?_
  subst he
  refine ⟨lim.keeps x.toInCall.keep, codeAny_func ?_⟩
  obtain ⟨t, ht, hq⟩ := hbody A outer s H vs Q E (hr.deeper _) hsp
  have I : Inv (cxOf CX P w K mg base N qual scope f cdv A outer s H E) [] (start N vs) H s1 := inv_start S hr.hd e0 hl r x
  refine wpAny_mono (ht [] s1 (start N vs) H _ I hq) (fun fl s' hs => ?_) fun e s' hs => hs
  have fin : ∀ {σ' : St} {H' : Hp} {v : V} {u : Value}, Inv (cxOf CX P w K mg base N qual scope f cdv A outer s H E) [] σ' H' s' → RelV v u → Q v H' → CE outer P w H s Q u s' :=
    fun {σ' H' v u} J rv q => ⟨v, H', J.os, J.bare, J.base, J.hok, rv, q⟩
  cases fl with
  | ret u =>
    obtain ⟨v, σ', H', J, rv, q⟩ := hs
    exact fin J rv q
  | next =>
    obtain ⟨σ', H', J, q⟩ := hs
    exact fin (v := V.non) (u := Value.none) J rfl q
  | brk =>
    obtain ⟨_, _, _, q⟩ := hs
    exact False.elim q
  | cont =>
    obtain ⟨_, _, _, q⟩ := hs
    exact False.elim q
end L2

namespace L2
open PySem PySem.Spec PyProof.Rows
section
variable {X : Cx} {x : Str} {p pos : Pos} {e : Expr} {es : List Expr} {t : TA} {id T : String} {r : List V → Hp → VK → Prop}

def tCB (r : List V → Hp → VK → Prop) (t : TA) : TE := fun σ H Q => t σ H fun vs H1 => r vs H1 Q
/-- f(e, ..), f a built-in function -/
theorem pe_callB (hc : CallR X (.builtin id) r) (hg : Gl X x) (hm : X.mg x = none) (hv : bootBuiltins x = some (.builtin id)) (ha : PA X (e :: es) t) (hn : x ≠ "__name__" := by decide) (hdb : (x == ("__debug__" : Str)) = false := by decide)
    (he : starEach (e :: es) X.env = (false, eval e X.env) :: starEach es X.env := by rfl) (hpl : (backTo pos (starEach es X.env)).any (·.1) = false := by rfl) : PE X (.Call (.Name x p) (e :: es) [] pos) (tCB r t) := by
  intro pins s σ H Q I h
  refine wpAny_Call_Name_kw (ld_blt I hg hm hv ?_ hn hdb)
  exact PyProof.Rows.callWith_builtin1 (thn (ha pos pins s σ H _ I h) fun us s1 ⟨vs, H1, I1, r1, q1⟩ => hc pins s1 σ H1 vs us Q I1 r1 q1) he hpl
end
end L2

namespace HT
open PySem PyProof.Rows

section
open PySem.SeqAt
open PySem.AutoSeq1 (wpAny_loadPart')
open PySem.MeetsSeq PySem.MeetsSeq2 PySem.MeetsSeq3

end

section
variable {prog : Program} {w : World} {A : Around} {E : Value → Shared → Prop} {s : Shared}

/-! ### t[a:b], not the whole -/
/-- a slice's bound as a place among n (d where it is left out) -/
def sIx (n d : Nat) : Option Int → Nat
  | none => d
  | some v => if v < 0 then (v + (n : Int)).toNat else min v.toNat n
theorem sIx_nat (n d k : Nat) : sIx n d (some (k : Int)) = min k n := by
  show (if (k : Int) < 0 then ((k : Int) + (n : Int)).toNat else min (k : Int).toNat n) = min k n
  rw [if_neg (by omega), Int.toNat_natCast]
end
end HT

namespace L2
open PySem PySem.Spec PyProof.Rows

/-! ### the parts of a slice -/
abbrev TO := St → Hp → (Option Int → Hp → Prop) → Prop
/-- a slice's part (left out, or an int) -/
def PO (X : Cx) (e : Option Expr) (t : TO) : Prop :=
  ∀ (pins : List (Addr × Obj)) (s : Shared) (σ : St) (H : Hp) (Q : Option Int → Hp → Prop), Inv X pins σ H s → t σ H Q →
    wpAny (model X.prog X.w) X.A (evalPart e X.env) (fun u s' => ∃ o H', Inv X pins σ H' s' ∧ IsPart u o ∧ Q o H') X.xe s
def tNoPart : TO := fun _ H Q => Q none H
def tPart (t : TE) : TO := fun σ H Q => t σ H fun x H1 => ∃ i, x = .int i ∧ Q (some i) H1

section
variable {X : Cx} {e : Expr} {te : TE} {lo hi : Option Expr} {tl th : TO} {pos p2 : Pos}

theorem po_none : PO X none tNoPart := by
  intro pins s σ H Q I h
  rw [evalPart_none]
  exact wpAny_pure ⟨none, H, I, .none, h⟩
theorem po_some (h : PE X e te) : PO X (some e) (tPart te) := by
  intro pins s σ H Q I hw
  rw [evalPart_some]
  refine thn (h pins s σ H _ I hw) fun u s1 ⟨x, H1, I1, r1, q1⟩ => ?_
  obtain ⟨i, rfl, q⟩ := q1
  obtain ⟨t, rfl⟩ := r1
  exact ⟨some i, H1, I1, .int i t, q⟩

/-- what a slice of a value is, by values: the slice object stands at sl -/
def SlR (X : Cx) (r : V → Option Int → Option Int → Hp → VK → Prop) : Prop :=
  ∀ (pins : List (Addr × Obj)) (s : Shared) (σ : St) (H : Hp) (x : V) (v vl vu : Value) (lo hi : Option Int) (sl : Addr) (Q : VK), Inv X pins σ H s → RelV x v → s.heap.IsSliceOf sl vl vu .none → IsPart vl lo → IsPart vu hi → r x lo hi H Q →
    ∃ T id, typeLookup (.type T) "__getitem__" = pure (some (.builtin id)) ∧ s.TypeIs v T ∧ wpAny (model X.prog X.w) X.A (getItem v (.ref sl)) (EP X pins σ Q) X.xe s
theorem SlR.or {r r' : V → Option Int → Option Int → Hp → VK → Prop} (h : SlR X r) (h' : SlR X r') : SlR X (fun x lo hi H Q => r x lo hi H Q ∨ r' x lo hi H Q) := by
  intro pins s σ H x v vl vu lo hi sl Q I rx hs pl pu q
  rcases q with q | q
  · exact h pins s σ H x v vl vu lo hi sl Q I rx hs pl pu q
  · exact h' pins s σ H x v vl vu lo hi sl Q I rx hs pl pu q
def tSl (r : V → Option Int → Option Int → Hp → VK → Prop) (te : TE) (tl th : TO) : TE := fun σ H Q => te σ H fun x H1 => tl σ H1 fun l H2 => th σ H2 fun u H3 => r x l u H3 Q
/-- a[lo:hi], any a -/
theorem pe_slice {r : V → Option Int → Option Int → Hp → VK → Prop} (hr : SlR X r) (he : PE X e te) (hl : PO X lo tl) (hu : PO X hi th) : PE X (.Subscript e (.Slice lo hi none p2) pos) (tSl r te tl th) := by
  intro pins s σ H Q I h
  refine Subscript_ (thn (he pins s σ H _ I h) fun v s1 ⟨x, H1, I1, r1, q1⟩ => ?_)
  refine wpAny_Slice (thn (hl pins s1 σ H1 _ I1 q1) fun vl s2 ⟨l, H2, I2, pl, q2⟩ => thn (hu pins s2 σ H2 _ I2 q2) fun vu s3 ⟨u, H3, I3, pu, q3⟩ => ?_)
  rw [evalPart_none]
  refine wpAny_pure ?_
  have I4 : Inv X pins σ H3 { s3 with heap := s3.heap.push { cls := .type "slice", data := .fields #[vl, vu, .none] } } := I3.kept (t' := s3.toks) fun b ob q => Heap.get?_push_of_some _ q
  obtain ⟨T, id, hT, ht, hg⟩ := hr pins { s3 with heap := s3.heap.push { cls := .type "slice", data := .fields #[vl, vu, .none] } } σ H3 x v vl vu l u s3.heap.objs.size Q I4 r1 (Heap.IsSliceOf.new ..) pl pu q3
  show wpAny (model X.prog X.w) X.A (subscriptTail e (.Slice lo hi none p2) v (.ref s3.heap.objs.size)) (EP X pins σ Q) X.xe { s3 with heap := s3.heap.push { cls := .type "slice", data := .fields #[vl, vu, .none] } }
  exact tail_any (ops := [.ref s3.heap.objs.size, v]) ht hT hg (by with_unfolding_all rfl)

/-- the items of xs[lo:hi] -/
def cutV (xs : List V) (lo hi : Option Int) : List V := (xs.drop (HT.sIx xs.length 0 lo)).take (HT.sIx xs.length xs.length hi - HT.sIx xs.length 0 lo)
theorem cutV_length (xs : List V) (lo hi : Option Int) : (cutV xs lo hi).length ≤ xs.length := by
  unfold cutV
  rw [List.length_take, List.length_drop]
  omega
/-! ### t < u, t + u -/
end
end L2

namespace L2
open PySem PySem.Spec PyProof.Rows

/-! ### places -/
/-- the place that an index of any sign means -/
def ixN (n : Nat) (i : Int) : Option Nat := if 0 ≤ i then (if i < n then some i.toNat else none) else if -(n : Int) ≤ i then some (i + n).toNat else none
def atI {α : Type} (xs : List α) (i : Int) : Option α := (ixN xs.length i).bind fun j => xs[j]?
theorem ixN_seq {n : Nat} {i : Int} {j : Nat} (h : ixN n i = some j) : seqIndex? i n = some j ∧ j < n ∧ -(n : Int) ≤ i ∧ i < n := by
  unfold ixN at h
  by_cases h0 : 0 ≤ i
  · rw [if_pos h0] at h
    by_cases h1 : i < n
    · rw [if_pos h1] at h
      have e : i.toNat = j := Option.some.inj h
      exact ⟨by rw [seqIndex_of h0 h1, e], by omega, by omega, h1⟩
    · rw [if_neg h1] at h; cases h
  · rw [if_neg h0] at h
    by_cases h1 : -(n : Int) ≤ i
    · rw [if_pos h1] at h
      have e : (i + n).toNat = j := Option.some.inj h
      exact ⟨by rw [seqIndex_neg (by omega) h1, e], by omega, h1, by omega⟩
    · rw [if_neg h1] at h; cases h
theorem atI_get {α : Type} {xs : List α} {i : Int} {v : α} (h : atI xs i = some v) : ∃ j, seqIndex? i xs.length = some j ∧ xs[j]? = some v ∧ j < xs.length ∧ -(xs.length : Int) ≤ i ∧ i < xs.length := by
  unfold atI at h
  cases e : ixN xs.length i with
  | none => rw [e] at h; cases h
  | some j =>
    rw [e] at h
    obtain ⟨h1, h2, h3, h4⟩ := ixN_seq e
    exact ⟨j, h1, h, h2, h3, h4⟩
theorem atI_nat {α : Type} {xs : List α} {j : Nat} {v : α} (h : xs[j]? = some v) : atI xs (j : Int) = some v := by
  have hj : j < xs.length := (List.getElem?_eq_some_iff.mp h).1
  have e : ixN xs.length (j : Int) = some j := by
    unfold ixN
    rw [if_pos (by omega), if_pos (by omega)]; simp
  unfold atI; rw [e]; exact h
/-! ### what may be subscripted -/
/-- what stands as an index of a plain subscript -/
def PlainIx (b : Expr) : Prop := ∀ o i, subscripted b false o i = operate [o, i] (getItem o i)
/-- a subscript by values -/
def IxR (X : Cx) (r : R2) : Prop :=
  ∀ (value slice : Expr) (pins : List (Addr × Obj)) (s : Shared) (σ : St) (H : Hp) (x y : V) (v u : Value) (Q : VK), Inv X pins σ H s → RelV x v → RelV y u → r x y H Q →
    subscripted slice false v u = operate [v, u] (getItem v u) → wpAny (model X.prog X.w) X.A (subscriptTail value slice v u) (EP X pins σ Q) X.xe s
/-- a call of a builtin's method by values: the receiver, the arguments -/
def MtR (X : Cx) (id : String) (r : V → List V → Hp → VK → Prop) : Prop :=
  ∀ (pins : List (Addr × Obj)) (s : Shared) (σ : St) (H : Hp) (x : V) (xs : List V) (v : Value) (us : List Value) (Q : VK), Inv X pins σ H s → RelV x v → Vals xs us → r x xs H Q →
    wpAny (model X.prog X.w) X.A (call (.builtin id) (v :: us)) (EP X pins σ Q) X.xe s
section
variable {X : Cx} {a b : Expr} {ta tb : TE} {pos : Pos}
theorem IxR.or {r r' : R2} (h : IxR X r) (h' : IxR X r') : IxR X (fun x y H Q => r x y H Q ∨ r' x y H Q) := by
  intro value slice pins s σ H x y v u Q I rx ry q hs
  rcases q with q | q
  · exact h value slice pins s σ H x y v u Q I rx ry q hs
  · exact h' value slice pins s σ H x y v u Q I rx ry q hs
theorem MtR.or {id : String} {r r' : V → List V → Hp → VK → Prop} (h : MtR X id r) (h' : MtR X id r') : MtR X id (fun x xs H Q => r x xs H Q ∨ r' x xs H Q) := by
  intro pins s σ H x xs v us Q I rx rs q
  rcases q with q | q
  · exact h pins s σ H x xs v us Q I rx rs q
  · exact h' pins s σ H x xs v us Q I rx rs q
/-- a[b] -/
theorem pe_ix {r : R2} (hr : IxR X r) (ha : PE X a ta) (hb : PE X b tb) (hs : PlainIx b) : PE X (.Subscript a b pos) (tOp r ta tb) := by
  intro pins s σ H Q I h
  exact Subscript_ (binT ha hb I h fun v u s2 x y H2 I2 rx ry q => hr a b pins s2 σ H2 x y v u Q I2 rx ry q (hs _ _))

def rIxL (K : PySem.W.Frag) : R2 := fun x y H Q => ∃ p xs i v, x = .ref p ∧ y = .int i ∧ SqL K H p xs ∧ atI xs i = some v ∧ Q v H
def rIxT (K : PySem.W.Frag) : R2 := fun x y H Q => ∃ p xs i v, x = .ref p ∧ y = .int i ∧ SqT K H p xs ∧ atI xs i = some v ∧ Q v H
theorem ix_list : IxR X (rIxL X.K) := by
  intro value slice pins s σ H x y v u Q I rx ry h hs
  obtain ⟨p, xs, i, z, rfl, rfl, hq, he, q⟩ := h
  cases rx
  obtain ⟨t, rfl⟩ := ry
  obtain ⟨its, r, pl, hz⟩ := I.list hq
  obtain ⟨j, h1, h2, h3, h4, h5⟩ := atI_get he
  obtain ⟨w, ew, rw'⟩ := r.get h2
  have hl := r.length
  have hn := line63
  have fin : EP X pins σ Q w s := ⟨z, H, I, rw', q⟩
  by_cases h0 : 0 ≤ i
  · have hj : i.toNat = j := by
      rw [seqIndex_of h0 h5] at h1
      exact Option.some.inj h1
    exact item_listR pl.isList h0 (by omega) (by rw [hj]; simpa using ew) fin hs
  · have hj : (i + (its.toArray.size : Int)).toNat = j := by
      rw [seqIndex_neg (by omega) h4] at h1
      rw [List.size_toArray, ← hl]
      exact Option.some.inj h1
    exact subscriptTail_builtinR (x := w) pl.isList.typeIs slot_list_getitem.lookup
      (wpAny_getItem_list_neg (Q := fun r s' => r = w ∧ EP X pins σ Q r s') pl.isList (by omega) (by rw [List.size_toArray] <;> omega) (by omega) (by rw [hj]; simpa using ew) ⟨rfl, fin⟩) hs
theorem ix_tup : IxR X (rIxT X.K) := by
  intro value slice pins s σ H x y v u Q I rx ry h hs
  obtain ⟨p, xs, i, z, rfl, rfl, hq, he, q⟩ := h
  cases rx
  obtain ⟨t, rfl⟩ := ry
  obtain ⟨its, r, pl, hz⟩ := I.tuple hq
  obtain ⟨j, h1, h2, h3, h4, h5⟩ := atI_get he
  obtain ⟨w, ew, rw'⟩ := r.get h2
  have hl := r.length
  have hn := line63
  have fin : EP X pins σ Q w s := ⟨z, H, I, rw', q⟩
  exact subscriptTail_builtinR (x := w) pl.typeIs slot_tuple_getitem.lookup
    (getItem_tuple (j := j) (Q := fun r s' => r = w ∧ EP X pins σ Q r s') pl (by omega) (by omega) (by rw [List.size_toArray, ← hl]; exact h1) (by simpa using ew) ⟨rfl, fin⟩) hs
/-! ### xs[i] = v, any sign -/
theorem Inv.lst {pins : List (Addr × Obj)} {σ : St} {H : Hp} {s : Shared} {p : Addr} {xs : List V} (I : Inv X pins σ H s) (h : H p = some (.lst xs)) :
    ∃ (its : List Value) (n : Nat), Vals xs its ∧ s.heap.get? p = some { cls := .type "list", data := .seq its.toArray n } ∧ xs.length ≤ sizeLine := by
  obtain ⟨z, its, n, r, e⟩ := I.hok p _ h
  exact ⟨its, n, r, e, z⟩
/-! ### slices -/
theorem slice_bounds (lo hi : Option Int) (n : Nat) : (sliceBounds lo hi none n).1 = ((HT.sIx n 0 lo : Nat) : Int) ∧ (sliceBounds lo hi none n).2.1 = ((HT.sIx n n hi : Nat) : Int) ∧ (sliceBounds lo hi none n).2.2 = 1 := by
  refine ⟨?_, ?_, rfl⟩
  · cases lo with
    | none => simp [sliceBounds, HT.sIx]
    | some i =>
      simp only [sliceBounds, HT.sIx, Option.getD_none, show (1 : Int) > 0 by decide, if_true]
      by_cases h : i < 0
      · simp only [h, if_true] <;> omega
      · simp only [h, if_false] <;> omega
  · cases hi with
    | none => simp [sliceBounds, HT.sIx]
    | some i =>
      simp only [sliceBounds, HT.sIx, Option.getD_none, show (1 : Int) > 0 by decide, if_true]
      by_cases h : i < 0
      · simp only [h, if_true] <;> omega
      · simp only [h, if_false] <;> omega
theorem slicePick_cut (its : List Value) (lo hi : Option Int) : slicePick its.toArray lo hi none = ((its.drop (HT.sIx its.length 0 lo)).take (HT.sIx its.length its.length hi - HT.sIx its.length 0 lo)).toArray := by
  obtain ⟨h1, h2, h3⟩ := slice_bounds lo hi its.toArray.size
  unfold slicePick
  rw [h1, h2, h3]
  simp only [sliceRange_one, pick_run, List.size_toArray] <;> rfl
/-- xs[lo:hi] of a list: a new list -/
def rSlL (K : PySem.W.Frag) : V → Option Int → Option Int → Hp → VK → Prop := fun x lo hi H Q => ∃ a xs, x = .ref a ∧ SqL K H a xs ∧ ∀ p, H p = none → Q (.ref p) (upd H p (.lst (cutV xs lo hi)))
theorem sl_list : SlR X (rSlL X.K) := by
  intro pins s σ H x v vl vu lo hi sl Q I rx hs pl pu h
  obtain ⟨a, xs, rfl, hx, q⟩ := h
  cases rx
  obtain ⟨its, r, ht, hz⟩ := I.list hx
  have hlen := r.length
  refine ⟨"list", _, slot_list_getitem.lookup, ht.isList.typeIs, ?_⟩
  refine wpAny_getItem_list_slice ht.isList hs pl pu .none (by simp) ?_ (by rw [List.size_toArray] <;> omega)
  rw [slicePick_cut, ← hlen]
  refine ⟨.ref s.heap.objs.size, _, I.laid (t' := s.toks) (o := .lst (cutV xs lo hi)) (fun b ob q => Heap.get?_push_of_some _ q) (Nat.le_refl _) ?_, rfl, q _ (I.hok.fresh (Nat.le_refl _))⟩
  exact ⟨Nat.le_trans (cutV_length xs lo hi) hz, _, 0, (r.drop (HT.sIx xs.length 0 lo)).take (HT.sIx xs.length xs.length hi - HT.sIx xs.length 0 lo), Heap.get?_push_size _ rfl⟩

/-! ### in, not in: flat items -/
/-! ### len, list(x), tuple(x) of any list or tuple that is read -/
theorem call_len_seq : CallR X (.builtin "len") (fun xs H Q => ∃ p ys, xs = [.ref p] ∧ (SqL X.K H p ys ∨ SqT X.K H p ys) ∧ Q (.int ys.length) H) := by
  intro pins s σ H xs us Q I r h
  obtain ⟨p, ys, rfl, hq, q⟩ := h
  obtain ⟨u, rfl, rx⟩ := vals1 r
  cases rx
  have hn := line63
  rcases hq with hq | hq
  · obtain ⟨its, r', pl, hz⟩ := I.list hq
    have hlen := r'.length
    exact Calls.call_len_list pl.isList (by simp only [List.size_toArray] <;> omega) ⟨.int ys.length, H, I.tok _, ⟨s.toks + 1, by rw [List.size_toArray, hlen]⟩, q⟩
  · obtain ⟨its, r', pl, hz⟩ := I.tuple hq
    have hlen := r'.length
    exact len_tuple pl (by simp only [List.size_toArray] <;> omega) ⟨.int ys.length, H, I.tok _, ⟨s.toks + 1, by rw [List.size_toArray, hlen]⟩, q⟩
theorem CallR.or {f : Value} {r r' : List V → Hp → VK → Prop} (h : CallR X f r) (h' : CallR X f r') : CallR X f (fun xs H Q => r xs H Q ∨ r' xs H Q) := by
  intro pins s σ H xs us Q I rs q
  rcases q with q | q
  · exact h pins s σ H xs us Q I rs q
  · exact h' pins s σ H xs us Q I rs q
/-! ### the call of a builtin's method: o.m(..) -/
/-- the value is of that builtin type -/
def tyV (K : PySem.W.Frag) (T : String) (x : V) (H : Hp) : Prop := match x with
  | .str _ => T = "str"
  | .int _ => T = "int"
  | .ref p => (T = "list" ∧ ∃ xs, SqL K H p xs) ∨ (T = "tuple" ∧ ∃ o, K.lookup p = some o ∧ o.cls = .type "tuple" ∧ o.dict = none) ∨
      (T = "dict" ∧ ((∃ kvs, H p = some (.dK kvs)) ∨ ∃ kvs, H p = some (.dT kvs))) ∨ (T = "set" ∧ ∃ S n, H p = some (.set S n))
  | _ => False
theorem tyV_is {pins : List (Addr × Obj)} {σ : St} {H : Hp} {s : Shared} {T : String} {x : V} {v : Value} (I : Inv X pins σ H s) (r : RelV x v) (ty : tyV X.K T x H) :
    s.TypeIs v T ∧ ∀ a, v = .ref a → ∃ ob, s.heap.get? a = some ob ∧ ob.dict = none := by
  cases x with
  | str z =>
    obtain ⟨t, rfl⟩ := r
    cases (show T = "str" from ty)
    exact ⟨typeIs_str s z t, fun _ e => nomatch e⟩
  | int i =>
    obtain ⟨t, rfl⟩ := r
    cases (show T = "int" from ty)
    exact ⟨typeIs_int s i t, fun _ e => nomatch e⟩
  | ref p =>
    cases r
    rcases ty with ⟨rfl, xs, hq⟩ | ⟨rfl, o, hk, hc, hd⟩ | ⟨rfl, hk⟩ | ⟨rfl, S, n, hk⟩
    · obtain ⟨its, _, pl, _⟩ := I.list hq
      refine ⟨pl.isList.typeIs, fun a e => ?_⟩
      cases e
      obtain ⟨o, n, e, c, hd, _⟩ := pl
      exact ⟨o, e, hd⟩
    · refine ⟨⟨o, I.kIn p o hk, hc⟩, fun a e => ?_⟩
      cases e
      exact ⟨o, I.kIn _ o hk, hd⟩
    · have z : ∃ o, s.heap.get? p = some o ∧ o.ExactDict := by
        rcases hk with ⟨kvs, hk⟩ | ⟨kvs, hk⟩
        · obtain ⟨_, _, _, _, o, _, _, e, ex, _⟩ := I.hok p _ hk
          exact ⟨o, e, ex⟩
        · obtain ⟨_, _, _, _, o, _, _, e, ex, _⟩ := I.hok p _ hk
          exact ⟨o, e, ex⟩
      obtain ⟨o, e, ex⟩ := z
      refine ⟨⟨o, e, ex.1⟩, fun a e2 => ?_⟩
      cases e2
      exact ⟨o, e, ex.2.1⟩
    · obtain ⟨o, _, _, _, e, ex, _⟩ := I.hok p _ hk
      refine ⟨⟨o, e, ex.1⟩, fun a e2 => ?_⟩
      cases e2
      exact ⟨o, e, ex.2.1⟩
  | _ => exact False.elim ty
def tBM0 (K : PySem.W.Frag) (T : String) (r : V → List V → Hp → VK → Prop) (to : TE) : TE := fun σ H Q => to σ H fun x H1 => tyV K T x H1 ∧ r x [] H1 Q
def tBM (K : PySem.W.Frag) (T : String) (r : V → List V → Hp → VK → Prop) (to : TE) (t : TA) : TE := fun σ H Q => to σ H fun x H1 => tyV K T x H1 ∧ t σ H1 fun xs H2 => r x xs H2 Q
variable {o e : Expr} {es : List Expr} {to : TE} {t : TA} {name : Str} {apos cpos : Pos} {T id : String} {r : V → List V → Hp → VK → Prop}
theorem pe_bm0 (pa : PlainAttrs T) (slot : Slot T name id) (hty : typeOf (.builtin id) = pure (.type "method_descriptor")) (hm : MtR X id r) (ho : PE X o to)
    (hbase : attributeBase o name X.env (eval o X.env) = eval o X.env := by rfl) (hline : (apos.endLine == cpos.line) = true := by rfl) : PE X (.Call (.Attribute o name apos) [] [] cpos) (tBM0 X.K T r to) := by
  intro pins s σ H Q I h
  refine wpAny_Call_method0_late hbase hline (thn (ho pins s σ H _ I h) fun v s1 ⟨x, H1, I1, r1, ty, q1⟩ => ?_)
  obtain ⟨h1, h2⟩ := tyV_is I1 r1 ty
  exact ⟨T, id, pa, slot, hty, h1, h2, Calls.callWith_builtin rfl (PySem.evalArgs_none (hm pins s1 σ H1 x [] v [] Q I1 r1 .nil q1))⟩
theorem pe_bm (pa : PlainAttrs T) (slot : Slot T name id) (hty : typeOf (.builtin id) = pure (.type "method_descriptor")) (hm : MtR X id r) (ho : PE X o to) (ha : PA X (e :: es) t)
    (hbase : attributeBase o name X.env (eval o X.env) = eval o X.env := by rfl)
    (hfew : ((backTo cpos (starEach (e :: es) X.env)).all (fun x => !x.1) && (backToKw cpos (keywordEach [] X.env)).all (fun x => x.1.isSome)
      && decide ((e :: es).length + ([] : List Keyword).length + (if ([] : List Keyword).isEmpty then 0 else 1) < 30)) = true := by rfl)
    (hline : (apos.endLine == cpos.line) = true := by rfl) (hs : starEach (e :: es) X.env = (false, eval e X.env) :: starEach es X.env := by rfl) (hplain : (backTo cpos (starEach es X.env)).any (·.1) = false := by rfl) :
    PE X (.Call (.Attribute o name apos) (e :: es) [] cpos) (tBM X.K T r to t) := by
  intro pins s σ H Q I h
  refine wpAny_Call_method_late hbase hfew hline rfl (thn (ho pins s σ H _ I h) fun v s1 ⟨x, H1, I1, r1, ty, q1⟩ => ?_)
  obtain ⟨h1, h2⟩ := tyV_is I1 r1 ty
  refine ⟨T, id, pa, slot, hty, h1, h2, ?_⟩
  have hA := ha cpos pins s1 σ H1 _ I1 q1
  rw [hs] at hA ⊢
  refine Calls.callWith_builtin (by show (false || (backTo cpos (starEach es X.env)).any (·.1)) = false; rw [hplain] <;> rfl) (Calls.evalArgs_plain ?_)
  exact thn hA fun us s2 ⟨vs, H2, I2, r2, q2⟩ => hm pins s2 σ H2 x vs v us Q I2 r1 r2 q2
/- xs.append(e), list.index on a module's tuple .. are MtR facts of 06m -/
end
end L2

namespace L2
open PySem PySem.Spec PyProof.Rows

def MtM (X : Cx) (id : String) (r : V → List V → Hp → VK → Prop) : Prop :=
  ∀ (pins : List (Addr × Obj)) (s : Shared) (σ : St) (H : Hp) (x : V) (xs : List V) (v : Value) (us : List Value) (Q : VK), Inv X pins σ H s → RelV x v → Vals xs us → r x xs H Q →
    wpAny (model X.prog X.w) X.A (call (.builtin id) (v :: us)) (EP X pins σ Q) X.xe s

/-! ### lists of values -/
theorem Vals.one : ∀ {x : V} {us : List Value}, Vals [x] us → ∃ u, us = [u] ∧ RelV x u
  | _, _, .cons r .nil => ⟨_, rfl, r⟩
theorem Vals.two : ∀ {x y : V} {us : List Value}, Vals [x, y] us → ∃ u v, us = [u, v] ∧ RelV x u ∧ RelV y v
  | _, _, _, .cons r (.cons q .nil) => ⟨_, _, rfl, r, q⟩
theorem Vals.zero : ∀ {us : List Value}, Vals [] us → us = []
  | _, .nil => rfl
theorem Vals.dropLast {xs : List V} {us : List Value} (h : Vals xs us) : Vals xs.dropLast us.dropLast := by
  induction h with
  | nil => exact .nil
  | cons r t ih =>
    cases t with
    | nil => exact .nil
    | cons q t' => exact .cons r ih
theorem Vals.eraseIdx : ∀ {xs : List V} {us : List Value} (i : Nat), Vals xs us → Vals (xs.eraseIdx i) (us.eraseIdx i)
  | _, _, _, .nil => .nil
  | _, _, 0, .cons _ t => t
  | _, _, i + 1, .cons r t => .cons r (Vals.eraseIdx i t)
theorem erase_last {α : Type} (l : List α) : l.eraseIdx (l.length - 1) = l.dropLast := by
  induction l with
  | nil => rfl
  | cons a r ih =>
    cases r with
    | nil => rfl
    | cons b r =>
      have e : (a :: b :: r).length - 1 = ((b :: r).length - 1) + 1 := by
        have h1 : (a :: b :: r).length = r.length + 2 := rfl
        have h2 : (b :: r).length = r.length + 1 := rfl
        omega
      rw [e, List.eraseIdx_cons_succ, ih]
      all_goals rfl
section
variable {X : Cx} {pins : List (Addr × Obj)} {σ : St} {H : Hp} {s : Shared} {l b : Addr} {xs ys zs : List V}

/-! ### the two steps: a tracked list is rewritten, a new list is laid -/
theorem Inv.lset {its its' : List Value} {n : Nat} {f : Array Value → Array Value} {t' : Nat} (I : Inv X pins σ H s) (hH : H l = some (.lst xs))
    (e : s.heap.get? l = some { cls := .type "list", data := .seq its.toArray n }) (hf : f its.toArray = its'.toArray) (hv : Vals ys its') (hz : ys.length ≤ sizeLine) :
    Inv X pins σ (upd H l (.lst ys)) { s with heap := s.heap.update l (Obj.mapSeq f), toks := t' } := by
  have q := PySem.IsL.update e f
  rw [hf] at q
  refine I.write (x := l) (e := l) (by rw [hH]; exact trivial) (.inl rfl) (fun b' u hb hu => (Heap.get?_update_other s.heap (Obj.mapSeq f) (Ne.symm hb)).trans hu) ⟨_, q⟩ ?_
  exact ⟨hz, its', _, hv, q⟩
theorem Inv.lnew {its : List Value} {t' : Nat} (I : Inv X pins σ H s) (hv : Vals ys its) (hz : ys.length ≤ sizeLine) :
    Inv X pins σ (upd H s.heap.objs.size (.lst ys)) { s with heap := s.heap.push { cls := .type "list", data := .seq its.toArray }, toks := t' } :=
  I.laid (fun _ _ q => Heap.get?_push_of_some _ q) (Nat.le_refl _) ⟨hz, its, 0, hv, Heap.get?_push_size _ rfl⟩
theorem Inv.fresh (I : Inv X pins σ H s) : H s.heap.objs.size = none := I.hok.fresh (Nat.le_refl _)
theorem Inv.lstM (I : Inv X pins σ H s) (hH : H l = some (.lst xs)) : xs.length ≤ sizeLine ∧ ∃ (its : List Value) (n : Nat), Vals xs its ∧ xs.length = its.length ∧ s.heap.get? l = some { cls := .type "list", data := .seq its.toArray n } := by
  obtain ⟨z, its, n, r, e⟩ := I.hok l _ hH
  exact ⟨z, its, n, r, r.length, e⟩

theorem notLongL {n : Nat} (h : n ≤ sizeLine) : Builtin.List.listTooLong n = false := by
  unfold Builtin.List.listTooLong
  exact decide_eq_false (by omega)
end

section
variable {X : Cx}

/-! ### methods -/
def rAppend : V → List V → Hp → VK → Prop := fun x vs H Q => ∃ l xs y, x = .ref l ∧ vs = [y] ∧ H l = some (.lst xs) ∧ xs.length < sizeLine ∧ Q .non (upd H l (.lst (xs ++ [y])))
theorem mt_append : MtM X "list.append" rAppend := by
  intro pins s σ H x vs v us Q I rx rv h
  obtain ⟨l, xs, y, rfl, rfl, hH, hz, q⟩ := h
  cases rx
  obtain ⟨u, rfl, ru⟩ := rv.one
  obtain ⟨z, its, n, r, hl, e⟩ := I.lstM hH
  refine call_meets F.slot_list_append ⟨_, e, rfl⟩ F.entry_list_append (F.args_list_append_2 _ _) (PySem.list_append l its.toArray n u (by rw [List.size_toArray]; omega)) ⟨e, ?_⟩
  refine ⟨.non, _, I.lset (its' := its ++ [u]) hH e (by simp) (r.append (.cons ru .nil)) ?_, rfl, q⟩
  rw [List.length_append, List.length_singleton]
  omega

def rExtend : V → List V → Hp → VK → Prop := fun x vs H Q => ∃ l b xs zs, x = .ref l ∧ vs = [.ref b] ∧ H l = some (.lst xs) ∧ H b = some (.lst zs) ∧ xs.length + zs.length ≤ sizeLine ∧ Q .non (upd H l (.lst (xs ++ zs)))
theorem mt_extend : MtM X "list.extend" rExtend := by
  intro pins s σ H x vs v us Q I rx rv h
  obtain ⟨l, b, xs, zs, rfl, rfl, hH, hB, hz, q⟩ := h
  cases rx
  obtain ⟨u, rfl, ru⟩ := rv.one
  cases ru
  obtain ⟨z, its, n, r, hl, e⟩ := I.lstM hH
  obtain ⟨z2, its2, n2, r2, hl2, e2⟩ := I.lstM hB
  have hsz : its.toArray.size + its2.toArray.size ≤ sizeLine := by rw [List.size_toArray, List.size_toArray]; omega
  have hlong : ¬ (!its.toArray.isEmpty && Builtin.List.listTooLong (its.toArray.size + its2.toArray.size)) = true := by
    rw [notLongL hsz, Bool.and_false]
    exact Bool.false_ne_true
  refine call_meets F.slot_list_extend ⟨_, e, rfl⟩ F.entry_list_extend (F.args_list_extend_2 _ _)
    (AutoSeq1.list_extend_list_list_0 l its.toArray n b its2.toArray n2 hlong (by rw [List.size_toArray]; omega) (by omega)) ⟨e, e2, ?_⟩
  refine ⟨.non, _, I.lset (its' := its ++ its2) hH e (by simp) (r.append r2) ?_, rfl, q⟩
  rw [List.length_append]
  omega

def rPop : V → List V → Hp → VK → Prop := fun x vs H Q => ∃ l xs y, x = .ref l ∧ vs = [] ∧ H l = some (.lst xs) ∧ xs[xs.length - 1]? = some y ∧ Q y (upd H l (.lst xs.dropLast))
theorem mt_pop : MtM X "list.pop" rPop := by
  intro pins s σ H x vs v us Q I rx rv h
  obtain ⟨l, xs, y, rfl, rfl, hH, hy, q⟩ := h
  cases rx
  have hus := rv.zero
  subst hus
  obtain ⟨z, its, n, r, hl, e⟩ := I.lstM hH
  obtain ⟨u, hu, ru⟩ := r.get hy
  have hy' : its.toArray[its.toArray.size - 1]? = some u := by
    show its.toArray[its.length - 1]? = some u
    rw [← Array.getElem?_toList, ← hl]
    exact hu
  refine call_meets F.slot_list_pop ⟨_, e, rfl⟩ F.entry_list_pop (F.args_list_pop_1 _) (MeetsSeq.list_pop_last l its.toArray n u hy' (by rw [List.size_toArray]; omega)) ⟨e, ?_⟩
  refine ⟨y, _, I.lset (its' := its.dropLast) hH e ?_ r.dropLast ?_, ru, q⟩
  · show its.toArray.eraseIdxIfInBounds (its.toArray.size - 1) = its.dropLast.toArray
    rw [List.size_toArray, List.eraseIdxIfInBounds_toArray, erase_last]
  · rw [List.length_dropLast]
    omega

/-! ### list + list, list += list, list * int -/
def rCat : R2 := fun x y H Q => ∃ l b xs zs, x = .ref l ∧ y = .ref b ∧ H l = some (.lst xs) ∧ H b = some (.lst zs) ∧ xs.length + zs.length ≤ sizeLine ∧ ∀ p, H p = none → Q (.ref p) (upd H p (.lst (xs ++ zs)))
theorem op_cat : OpR X (binaryOp .Add) rCat := by
  intro pins s σ H x y v u Q I rx ry h
  obtain ⟨l, b, xs, zs, rfl, rfl, hH, hB, hz, q⟩ := h
  cases rx
  cases ry
  obtain ⟨z, its, n, r, hl, e⟩ := I.lstM hH
  obtain ⟨z2, its2, n2, r2, hl2, e2⟩ := I.lstM hB
  refine PySem.P.add_list e e2 ?_ (by rw [List.size_toArray, List.size_toArray]; omega)
  have ea : its.toArray ++ its2.toArray = (its ++ its2).toArray := by simp
  rw [ea]
  exact ⟨.ref _, _, I.lnew (t' := s.toks) (r.append r2) (by rw [List.length_append]; omega), rfl, q _ I.fresh⟩
/-! ### del xs[i] -/
end

/-! ### xs[a:b] = ys -/
section
variable {prog : Program} {w : World} {A : Around} {E : Value → Shared → Prop} {s : Shared}
set_option maxRecDepth 100000 in
end

section
variable {X : Cx}
end
end L2

namespace L2
open PySem PySem.Spec PyProof.Rows

theorem Vals.ints : ∀ {ns : List Int} {us : List Value}, Vals (ns.map V.int) us → IntsAre us ns
  | [], us, h => by
    rw [List.map_nil] at h
    cases h
    exact IntsAre.nil
  | n :: ns, us, h => by
    rw [List.map_cons] at h
    cases h with
    | cons r t =>
      obtain ⟨k, rfl⟩ := r
      exact IntsAre.cons n k (Vals.ints t)
theorem Vals.strs : ∀ {xs : List Str} {us : List Value}, Vals (xs.map V.str) us → StrsAre us xs
  | [], us, h => by
    rw [List.map_nil] at h
    cases h
    exact StrsAre.nil
  | x :: xs, us, h => by
    rw [List.map_cons] at h
    cases h with
    | cons r t =>
      obtain ⟨k, rfl⟩ := r
      exact StrsAre.cons x k (Vals.strs t)
theorem Vals.ref1 {a : Addr} {us : List Value} (r : Vals [V.ref a] us) : us = [Value.ref a] := by
  cases r with
  | cons r t =>
    cases t
    cases r
    rfl
/-! ### the library's walks over a list of ints, kept objects alone -/
section
variable {prog : Program} {w : World} {A : Around} {E : Value → Shared → Prop} {s : Shared} {l : Addr} {its : List Value} {ns : List Int} {Q : Value → Shared → Prop}
theorem sum_raw (hh : A.handled = none) (hl : s.heap.IsList l its.toArray) (hi : IntsAre its ns)
    (h : ∀ h' tk t', (∀ b o, s.heap.get? b = some o → h'.get? b = some o) → Q (.int ns.sum t') { s with heap := h', toks := tk }) : wpAny (model prog w) A (call (.builtin "sum") [.ref l]) Q E s := by
  obtain ⟨xs, e⟩ := hi.allInts.items
  have hn : numsOf (intItems xs).toList = ns := by rw [← e]; exact hi.numsOf
  rw [nums_intItems] at hn
  rw [e] at hl
  refine PySem.sum_intListG hh hl fun h' tk t' hk => ?_
  have := h h' tk t' hk
  rw [preSum_eq, List.take_of_length_le (by simp), hn]; exact this
theorem max_raw (hh : A.handled = none) (hl : s.heap.IsList l its.toArray) (hi : IntsAre its ns) (hne : 0 < ns.length)
    (h : ∀ h' tk M t', (∀ b o, s.heap.get? b = some o → h'.get? b = some o) → M ∈ ns → (∀ a, a ∈ ns → a ≤ M) → Q (.int M t') { s with heap := h', toks := tk }) : wpAny (model prog w) A (call (.builtin "max") [.ref l]) Q E s := by
  obtain ⟨xs, e⟩ := hi.allInts.items
  have hn : numsOf (intItems xs).toList = ns := by rw [← e]; exact hi.numsOf
  rw [nums_intItems] at hn
  subst hn
  rw [e] at hl
  have hsz : 0 < xs.size := by simpa using hne
  refine PySem.max_intList hh hl hsz fun v h' tk hv hk => ?_
  obtain ⟨t, rfl⟩ := intItems_at hv
  obtain ⟨h1, h2⟩ := argBest_gt (numAt xs) (xs.size - 1)
  refine h h' tk _ t hk ?_ fun a ha => ?_
  · rw [numAt_eq]; exact PySem.getD_mem (by rw [List.length_map, Array.length_toList]; omega)
  · obtain ⟨j, hj, rfl⟩ := mem_getD ha
    rw [List.length_map, Array.length_toList] at hj
    rw [← numAt_eq]; exact h2 j (by omega)
theorem min_raw (hh : A.handled = none) (hl : s.heap.IsList l its.toArray) (hi : IntsAre its ns) (hne : 0 < ns.length)
    (h : ∀ h' tk M t', (∀ b o, s.heap.get? b = some o → h'.get? b = some o) → M ∈ ns → (∀ a, a ∈ ns → M ≤ a) → Q (.int M t') { s with heap := h', toks := tk }) : wpAny (model prog w) A (call (.builtin "min") [.ref l]) Q E s := by
  obtain ⟨xs, e⟩ := hi.allInts.items
  have hn : numsOf (intItems xs).toList = ns := by rw [← e]; exact hi.numsOf
  rw [nums_intItems] at hn
  subst hn
  rw [e] at hl
  have hsz : 0 < xs.size := by simpa using hne
  refine PySem.min_intList hh hl hsz fun v h' tk hv hk => ?_
  obtain ⟨t, rfl⟩ := intItems_at hv
  obtain ⟨h1, h2⟩ := argBest_lt (numAt xs) (xs.size - 1)
  refine h h' tk _ t hk ?_ fun a ha => ?_
  · rw [numAt_eq]; exact PySem.getD_mem (by rw [List.length_map, Array.length_toList]; omega)
  · obtain ⟨j, hj, rfl⟩ := mem_getD ha
    rw [List.length_map, Array.length_toList] at hj
    rw [← numAt_eq]; exact h2 j (by omega)
end

/-! ### the calls, by values (CallR of 03t; MtR of 06l) -/
section
variable {X : Cx}
/-- sum(xs) of a list of ints -/
def rSum (K : PySem.W.Frag) : List V → Hp → VK → Prop := fun vs H Q => ∃ (a : Addr) (ns : List Int), vs = [V.ref a] ∧ SqL K H a (ns.map V.int) ∧ Q (.int ns.sum) H
/-- max(xs), min(xs) of a list of ints -/
def rMax (K : PySem.W.Frag) : List V → Hp → VK → Prop := fun vs H Q => ∃ (a : Addr) (ns : List Int), vs = [V.ref a] ∧ SqL K H a (ns.map V.int) ∧ 0 < ns.length ∧ ∀ m, m ∈ ns → (∀ y, y ∈ ns → y ≤ m) → Q (.int m) H
def rMin (K : PySem.W.Frag) : List V → Hp → VK → Prop := fun vs H Q => ∃ (a : Addr) (ns : List Int), vs = [V.ref a] ∧ SqL K H a (ns.map V.int) ∧ 0 < ns.length ∧ ∀ m, m ∈ ns → (∀ y, y ∈ ns → m ≤ y) → Q (.int m) H
theorem cr_sum (hc : X.calm = true) : CallR X (.builtin "sum") (rSum X.K) := by
  intro pins s σ H vs us Q I r h
  obtain ⟨a, ns, rfl, hs, q⟩ := h
  obtain ⟨its, rv, hl, _⟩ := I.list hs
  rw [Vals.ref1 r]
  exact sum_raw (I.ok.hd hc) hl.isList rv.ints fun h' tk t' hk => ⟨.int _, H, I.kept hk, ⟨_, rfl⟩, q⟩
theorem cr_max (hc : X.calm = true) : CallR X (.builtin "max") (rMax X.K) := by
  intro pins s σ H vs us Q I r h
  obtain ⟨a, ns, rfl, hs, hne, q⟩ := h
  obtain ⟨its, rv, hl, _⟩ := I.list hs
  rw [Vals.ref1 r]
  exact max_raw (I.ok.hd hc) hl.isList rv.ints hne fun h' tk m t' hk h1 h2 => ⟨.int _, H, I.kept hk, ⟨_, rfl⟩, q m h1 h2⟩
theorem cr_min (hc : X.calm = true) : CallR X (.builtin "min") (rMin X.K) := by
  intro pins s σ H vs us Q I r h
  obtain ⟨a, ns, rfl, hs, hne, q⟩ := h
  obtain ⟨its, rv, hl, _⟩ := I.list hs
  rw [Vals.ref1 r]
  exact min_raw (I.ok.hd hc) hl.isList rv.ints hne fun h' tk m t' hk h1 h2 => ⟨.int _, H, I.kept hk, ⟨_, rfl⟩, q m h1 h2⟩

/-! sorted, sort (fewer than 64 items: the library's own bound) -/
end

/-! ### list.index, flat items -/
section
variable {X : Cx}
end

/-! ### type(x) of an own instance; is, is not of a module's class -/
section
variable {X : Cx}
end

/-! ### any(xs), all(xs) of a list of bools -/
section
variable {X : Cx}
end

/-! ### == and != of data at any depth: none, bools, ints, texts, lists, tuples -/
mutual
inductive Dp (K : PySem.W.Frag) (H : Hp) : V → PyData → Prop
  | non : Dp K H .non .none
  | bl (b : Bool) : Dp K H (.bl b) (.bool b)
  | int (i : Int) : Dp K H (.int i) (.int i)
  | str (x : Str) : Dp K H (.str x) (.str x)
  | lst {a : Addr} {xs : List V} {ds : List PyData} : SqL K H a xs → DpAll K H xs ds → Dp K H (.ref a) (.list ds)
  | tup {a : Addr} {xs : List V} {ds : List PyData} : SqT K H a xs → DpAll K H xs ds → Dp K H (.ref a) (.tuple ds)
inductive DpAll (K : PySem.W.Frag) (H : Hp) : List V → List PyData → Prop
  | nil : DpAll K H [] []
  | cons {v : V} {vs : List V} {d : PyData} {ds : List PyData} : Dp K H v d → DpAll K H vs ds → DpAll K H (v :: vs) (d :: ds)
end
section
variable {X : Cx} {pins : List (Addr × Obj)} {σ : St} {H : Hp} {s : Shared}
mutual
theorem Dp.reads (I : Inv X pins σ H s) : ∀ (d : PyData) (v : V) (u : Value), Dp X.K H v d → RelV v u → ∃ as, Reads s.heap u d as
  | .none, _, _, h, r => by
    cases h
    cases r
    exact ⟨_, Reads.none⟩
  | .bool b, _, _, h, r => by
    cases h
    cases r
    exact ⟨_, Reads.bool b⟩
  | .int i, _, _, h, r => by
    cases h
    obtain ⟨t, rfl⟩ := r
    exact ⟨_, Reads.int i t⟩
  | .str x, _, _, h, r => by
    cases h
    obtain ⟨t, rfl⟩ := r
    exact ⟨_, Reads.str x t⟩
  | .list ds, _, _, h, r => by
    cases h with
    | lst hs ha =>
      cases r
      obtain ⟨its, rv, ⟨o, n, ho, hc, _, hd⟩, _⟩ := I.list hs
      obtain ⟨as, hr⟩ := Dp.readsAll I ds _ its ha rv
      exact ⟨_, Reads.list ho hc hd hr⟩
  | .tuple ds, _, _, h, r => by
    cases h with
    | tup hs ha =>
      cases r
      obtain ⟨its, rv, ⟨o, ho, hc, n, hd⟩, _⟩ := I.tuple hs
      obtain ⟨as, hr⟩ := Dp.readsAll I ds _ its ha rv
      exact ⟨_, Reads.tuple ho hc hd hr⟩
  | .dict _, _, _, h, _ => by cases h
theorem Dp.readsAll (I : Inv X pins σ H s) : ∀ (ds : List PyData) (vs : List V) (us : List Value), DpAll X.K H vs ds → Vals vs us → ∃ as, ReadsAll s.heap us ds as
  | [], _, _, h, r => by
    cases h
    cases r
    exact ⟨_, ReadsAll.nil⟩
  | d :: ds, _, _, h, r => by
    cases h with
    | cons h1 h2 =>
      cases r with
      | cons r1 r2 =>
        obtain ⟨as, q1⟩ := Dp.reads I d _ _ h1 r1
        obtain ⟨bs, q2⟩ := Dp.readsAll I ds _ _ h2 r2
        exact ⟨_, ReadsAll.cons q1 q2⟩
end
end
section
variable {X : Cx}
end
end L2

namespace L2
open PySem PySem.Spec PyProof.Rows
abbrev CellAt (h : Heap) (c : Addr) (v : Option Value) : Prop := h.IsCell c v
def relS (scope sc : Scope) : Scope :=
  { scope with names := scope.names.map fun (n, k) => if (k == .free && sc.kind == .function && sc.names.lookup n == some .cell) then (n, .cell) else (n, k) }

def cloFrom (cells : List (Str × Addr)) : List (Str × NameKind) → List (Str × Addr) → List (Str × Addr)
  | [], acc => acc
  | (n, k) :: r, acc => if k == .free then cloFrom cells r ((n, (cells.lookup n).getD 0) :: acc) else cloFrom cells r acc

theorem closure_loop (env : Env) (f : Str × NameKind → List (Str × Addr) → Sem (ForInStep (List (Str × Addr))))
    (hf : ∀ n k c, f (n, k) c = if k == .free then (do let a ← cellOf env n; pure (.yield ((n, a) :: c))) else pure (.yield c)) :
    ∀ (names : List (Str × NameKind)) (acc : List (Str × Addr)), (∀ y ∈ names, y.2 = .free → ∃ c, env.cells.lookup y.1 = some c) → forIn names acc f = pure (cloFrom env.cells names acc)
  | [], acc, _ => by rw [List.forIn_nil]; rfl
  | (n, k) :: r, acc, h => by
    rw [List.forIn_cons, hf]
    have ih := fun acc => closure_loop env f hf r acc fun y hy => h y (List.mem_cons_of_mem _ hy)
    unfold cloFrom
    by_cases hk : (k == NameKind.free) = true
    · rw [if_pos hk, if_pos hk]
      obtain ⟨c, hc⟩ := h (n, k) List.mem_cons_self (by simpa using hk)
      have e : cellOf env n = pure c := by unfold cellOf; rw [hc]
      rw [e]
      have e2 : (env.cells.lookup n).getD 0 = c := by rw [hc]; rfl
      rw [e2]
      exact ih _
    · rw [if_neg hk, if_neg hk]
      exact ih _
theorem closure_ok {scope : Scope} {env : Env} (h : ∀ y ∈ scope.names, y.2 = .free → ∃ c, env.cells.lookup y.1 = some c) : closureFor scope env = pure (cloFrom env.cells scope.names []) := by
  simp only [closureFor]
  rw [closure_loop env _ (fun n k c => rfl) scope.names [] h]
  rfl

theorem mem_lookup {α : Type} : ∀ {l : List (Str × α)} {n : Str} {c : α}, (n, c) ∈ l → ∃ c', l.lookup n = some c'
  | (k, v) :: r, n, c, h => by
    rw [List.lookup_cons]
    cases hb : n == k with
    | true => exact ⟨_, rfl⟩
    | false =>
      rcases List.mem_cons.mp h with e | h
      · cases e; simp at hb
      · exact mem_lookup h

theorem cloFrom_mem {cells : List (Str × Addr)} : ∀ {names : List (Str × NameKind)} {acc : List (Str × Addr)} {n : Str} {c : Addr}, (n, c) ∈ cloFrom cells names acc → (n, c) ∈ acc ∨ ((n, .free) ∈ names ∧ c = (cells.lookup n).getD 0)
  | [], _, _, _, h => .inl h
  | (m, k) :: r, acc, n, c, h => by
    unfold cloFrom at h
    split at h
    · rename_i hk
      have hk : k = .free := by simpa using hk
      rcases cloFrom_mem h with h | ⟨h1, h2⟩
      · rcases List.mem_cons.mp h with e | h
        · cases e; exact .inr ⟨hk ▸ List.mem_cons_self, rfl⟩
        · exact .inl h
      · exact .inr ⟨List.mem_cons_of_mem _ h1, h2⟩
    · rcases cloFrom_mem h with h | ⟨h1, h2⟩
      · exact .inl h
      · exact .inr ⟨List.mem_cons_of_mem _ h1, h2⟩
theorem cloFrom_acc {cells : List (Str × Addr)} : ∀ {names : List (Str × NameKind)} {acc : List (Str × Addr)} {p : Str × Addr}, p ∈ acc → p ∈ cloFrom cells names acc
  | [], _, _, h => h
  | (m, k) :: r, acc, p, h => by
    unfold cloFrom
    split
    · exact cloFrom_acc (List.mem_cons_of_mem _ h)
    · exact cloFrom_acc h
theorem cloFrom_has {cells : List (Str × Addr)} : ∀ {names : List (Str × NameKind)} {acc : List (Str × Addr)} {n : Str}, (n, .free) ∈ names → (n, (cells.lookup n).getD 0) ∈ cloFrom cells names acc
  | (m, k) :: r, acc, n, h => by
    unfold cloFrom
    rcases List.mem_cons.mp h with e | h
    · cases e
      exact cloFrom_acc List.mem_cons_self
    · split
      · exact cloFrom_has h
      · exact cloFrom_has h

theorem cells_mem : ∀ {names : List (Str × NameKind)} {h : Heap} {acc : List (Str × Addr)} {x : Str} {c : Addr}, (x, c) ∈ cellsFrom h.objs.size names acc →
    (x, c) ∈ acc ∨ ((x, .cell) ∈ names ∧ h.objs.size ≤ c ∧ CellAt (pushCells h names) c none)
  | [], _, _, _, _, h => .inl h
  | (n, k) :: r, h, acc, x, c, hm => by
    unfold cellsFrom at hm
    unfold pushCells
    split at hm
    · rename_i hk
      rw [if_pos hk]
      have hk : k = .cell := by simpa using hk
      rw [← Heap.size_push h { cls := .type "cell", data := .cell none }] at hm
      rcases cells_mem hm with hm | ⟨h1, h2, h3⟩
      · rcases List.mem_cons.mp hm with e | hm
        · cases e
          exact .inr ⟨hk ▸ List.mem_cons_self, Nat.le_refl _, _, pushCells_keeps r _ _ _ (Heap.get?_push_size _ rfl), rfl⟩
        · exact .inl hm
      · rw [Heap.size_push] at h2
        exact .inr ⟨List.mem_cons_of_mem _ h1, Nat.le_of_succ_le h2, h3⟩
    · rename_i hk
      rw [if_neg hk]
      rcases cells_mem hm with hm | ⟨h1, h2, h3⟩
      · exact .inl hm
      · exact .inr ⟨List.mem_cons_of_mem _ h1, h2, h3⟩
theorem cells_acc : ∀ {names : List (Str × NameKind)} {n : Nat} {acc : List (Str × Addr)} {p : Str × Addr}, p ∈ acc → p ∈ cellsFrom n names acc
  | [], _, _, _, h => h
  | (m, k) :: r, n, acc, p, h => by
    unfold cellsFrom
    split
    · exact cells_acc (List.mem_cons_of_mem _ h)
    · exact cells_acc h
theorem cells_has : ∀ {names : List (Str × NameKind)} {n : Nat} {acc : List (Str × Addr)} {x : Str}, (x, .cell) ∈ names → ∃ c, (x, c) ∈ cellsFrom n names acc
  | (m, k) :: r, n, acc, x, h => by
    unfold cellsFrom
    rcases List.mem_cons.mp h with e | h
    · cases e
      exact ⟨n, cells_acc List.mem_cons_self⟩
    · split
      · exact cells_has h
      · exact cells_has h
theorem cells_inj : ∀ {names : List (Str × NameKind)} {h : Heap} {acc : List (Str × Addr)} {x y : Str} {c : Addr}, (∀ p ∈ acc, p.2 < h.objs.size) → (∀ x y c, (x, c) ∈ acc → (y, c) ∈ acc → x = y) →
    (x, c) ∈ cellsFrom h.objs.size names acc → (y, c) ∈ cellsFrom h.objs.size names acc → x = y
  | [], _, _, _, _, _, _, hi, h1, h2 => hi _ _ _ h1 h2
  | (n, k) :: r, h, acc, x, y, c, hl, hi, h1, h2 => by
    unfold cellsFrom at h1 h2
    split at h1
    · rename_i hk
      rw [if_pos hk] at h2
      rw [← Heap.size_push h { cls := .type "cell", data := .cell none }] at h1 h2
      refine cells_inj (h := h.push _) (fun p hp => ?_) (fun x y c a b => ?_) h1 h2
      · rw [Heap.size_push]
        rcases List.mem_cons.mp hp with rfl | hp
        · exact Nat.lt_succ_self _
        · exact Nat.lt_succ_of_lt (hl p hp)
      · rcases List.mem_cons.mp a with e | a <;> rcases List.mem_cons.mp b with e' | b
        · cases e; cases e'; rfl
        · cases e; exact absurd (hl _ b) (Nat.lt_irrefl _)
        · cases e'; exact absurd (hl _ a) (Nat.lt_irrefl _)
        · exact hi _ _ _ a b
    · rename_i hk
      rw [if_neg hk] at h2
      exact cells_inj hl hi h1 h2

theorem newEnv_comp {M : Model} {A : Around} {E : Value → Shared → Prop} {s : Shared} {scope : Scope} {globals : Addr} {closure : List (Str × Addr)} {qual : Str} {func : Option Addr} {code : Value} {around : Env} {builtins : Addr} {Q : Env → Shared → Prop}
    (h : Q (newEnv scope s.heap.objs.size globals (cellsFrom (s.heap.objs.size + 1) scope.names closure) qual func code (some around) builtins)
      { s with heap := pushCells (s.heap.push { cls := .type "dict", data := .dict #[] }) scope.names }) :
    wpAny M A (newFunctionEnv scope globals closure [] qual func code (some around) builtins) Q E s := by
  simp only [newFunctionEnv, Option.isSome_some, if_true]
  refine wpAny_bind (wpAny_alloc ?_)
  refine wpAny_bind (wpAny_layCells _ (fun n k c => rfl) scope.names closure _ _ ?_)
  rw [show ({ s with heap := s.heap.push { cls := .type "dict", data := .dict #[] } } : Shared).heap.objs.size = s.heap.objs.size + 1 from Heap.size_push ..]
  rw [List.forIn_nil]
  exact wpAny_bind (wpAny_pure (wpAny_pure h))

/-- every name of the written scope, in the scope that runs -/
theorem lookup_relS {sc : Scope} : ∀ {names : List (Str × NameKind)} {x : Str} {k : NameKind},
    (names.map fun (n, k) => if (k == NameKind.free && sc.kind == .function && sc.names.lookup n == some .cell) then (n, NameKind.cell) else (n, k)).lookup x = some k →
    ∃ k', names.lookup x = some k' ∧ (k = k' ∨ (k' = .free ∧ k = .cell))
  | [], _, _, h => by simp at h
  | (n, k₀) :: r, x, k, h => by
    have ih := @lookup_relS sc r x k
    have h' : List.lookup x ((if (k₀ == NameKind.free && sc.kind == .function && sc.names.lookup n == some .cell) = true then (n, NameKind.cell) else (n, k₀)) :: (r.map _)) = some k := h
    cases hx : x == n with
    | true =>
      simp only [List.lookup_cons, hx]
      by_cases hc : (k₀ == NameKind.free && sc.kind == .function && sc.names.lookup n == some .cell) = true
      · rw [if_pos hc] at h'
        simp only [List.lookup_cons, hx] at h'
        cases h'
        simp only [Bool.and_eq_true, beq_iff_eq] at hc
        exact ⟨k₀, rfl, .inr ⟨hc.1.1, rfl⟩⟩
      · rw [if_neg hc] at h'
        simp only [List.lookup_cons, hx] at h'
        cases h'
        exact ⟨_, rfl, .inl rfl⟩
    | false =>
      simp only [List.lookup_cons, hx]
      by_cases hc : (k₀ == NameKind.free && sc.kind == .function && sc.names.lookup n == some .cell) = true
      · rw [if_pos hc] at h'
        simp only [List.lookup_cons, hx] at h'
        exact ih h'
      · rw [if_neg hc] at h'
        simp only [List.lookup_cons, hx] at h'
        exact ih h'
/-- the names of a comprehension's block: its own (with their places in N), or captured -/
structure BlkOk (N : List Str) (sc scope : Scope) (own : List (Str × Nat)) : Prop where
  kind : scope.kind = .function
  uniq : ∀ y ∈ scope.names, scope.names.lookup y.1 = some y.2
  ix : ∀ p ∈ own, N[p.2]? = some p.1
  free : ∀ y ∈ scope.names, y.2 = .free → sc.names.lookup y.1 = some .cell ∨ sc.names.lookup y.1 = some .free
  own : ∀ y ∈ scope.names, y.2 = .local ∨ y.2 = .cell → y.1 ∈ own.map (·.1) ∨ y.1 ∉ N
/-- the slots of the block's own names forgotten -/
def wipe (σ : St) : List Nat → St
  | [] => σ
  | v :: vs => (wipe σ vs).set v none
theorem wipe_length (σ : St) : ∀ vs : List Nat, (wipe σ vs).length = σ.length
  | [] => rfl
  | v :: vs => by unfold wipe; rw [List.length_set, wipe_length σ vs]
theorem wipe_some {σ : St} {i : Nat} {x : V} : ∀ {vs : List Nat}, (wipe σ vs)[i]? = some (some x) → σ[i]? = some (some x) ∧ i ∉ vs
  | [], h => ⟨h, by simp⟩
  | v :: vs, h => by
    unfold wipe at h
    by_cases hi : v = i
    · subst hi
      by_cases hv : v < (wipe σ vs).length
      · rw [List.getElem?_set_self hv] at h; cases h
      · rw [List.getElem?_eq_none (by simpa using hv)] at h; cases h
    · rw [List.getElem?_set_ne hi] at h
      obtain ⟨h1, h2⟩ := wipe_some h
      exact ⟨h1, by simp only [List.mem_cons, not_or]; exact ⟨fun e => hi e.symm, h2⟩⟩

/-- the context of a block that starts at s, its iterator's objects at fp -/
abbrev Cx.blk (X : Cx) (s : Shared) (H : Hp) (scope : Scope) (cenv : Env) (fp : List Addr) : Cx := { X with s_0 := s, H_0 := H, env := cenv, outer := X.stack, ex := fp, fn := fun x => scope.names.lookup x == some .cell, pn := [], xe := fun _ _ => False }
section
variable {X : Cx} {pins : List (Addr × Obj)} {σ : St} {H : Hp} {s : Shared}
theorem block_start {scope : Scope} {own : List (Str × Nat)} {fp : List Addr} (I : Inv X pins σ H s) (ok : BlkOk X.N X.env.scope scope own) (hN : X.N.Nodup) (hfp : ∀ b ∈ fp, FpOk X pins H b ∧ b < s.heap.objs.size) :
    Inv (X.blk s H scope (compEnvC scope (cellsFrom (s.heap.objs.size + 1) scope.names (cloFrom X.env.cells scope.names [])) s.heap.objs.size X.env) fp) [] (wipe σ (own.map (·.2))) H { s with heap := pushCells (s.heap.push { cls := .type "dict", data := .dict #[] }) scope.names } := by
  have hfree : ∀ y ∈ scope.names, y.2 = .free → ∃ c, X.env.cells.lookup y.1 = some c := fun y hy e => by
    rcases ok.free y hy e with k | k
    · exact I.ok.has _ (.inl k)
    · exact I.ok.has _ (.inr k)
  generalize hcenv : compEnvC scope (cellsFrom (s.heap.objs.size + 1) scope.names (cloFrom X.env.cells scope.names [])) s.heap.objs.size X.env = cenv
  have kp : ∀ b o, s.heap.get? b = some o → (pushCells (s.heap.push { cls := .type "dict", data := .dict #[] }) scope.names).get? b = some o := fun b o e => pushCells_keeps _ _ _ _ (Heap.get?_push_of_some _ e)
  have hL : cenv.locals = s.heap.objs.size := by rw [← hcenv]; rfl
  have hcl : cenv.cells = cellsFrom (s.heap.objs.size + 1) scope.names (cloFrom X.env.cells scope.names []) := by rw [← hcenv]; rfl
  have hsc : cenv.scope = relS scope X.env.scope := by rw [← hcenv]; rfl
  rw [← Heap.size_push s.heap { cls := .type "dict", data := .dict #[] }] at hcl
  have cm : ∀ {y c}, (y, c) ∈ cloFrom X.env.cells scope.names [] → X.env.cells.lookup y = some c ∧ c < s.heap.objs.size := fun {y c} hm => by
    rcases cloFrom_mem hm with hm | ⟨h1, rfl⟩
    · cases hm
    · obtain ⟨c, hc⟩ := hfree _ h1 rfl
      rw [hc]
      obtain ⟨w, z⟩ := I.cell _ _ hc
      exact ⟨rfl, z.lt⟩
  have mem : ∀ {y c}, cenv.cells.lookup y = some c → (X.env.cells.lookup y = some c ∧ c < s.heap.objs.size) ∨ (s.heap.objs.size + 1 ≤ c ∧ CellAt (pushCells (s.heap.push { cls := .type "dict", data := .dict #[] }) scope.names) c none) := fun {y c} e => by
    rw [hcl] at e
    rcases cells_mem (PySem.mem_of_lookup e) with hm | ⟨_, h2, h3⟩
    · exact .inl (cm hm)
    · rw [Heap.size_push] at h2; exact .inr ⟨h2, h3⟩
  have look : ∀ {y}, scope.names.lookup y = some .free → ∃ c, cenv.cells.lookup y = some c ∧ X.env.cells.lookup y = some c := fun {y} hl => by
    have hy : (y, NameKind.free) ∈ scope.names := PySem.mem_of_lookup hl
    obtain ⟨c', e'⟩ := mem_lookup (cells_acc (names := scope.names) (n := (s.heap.push { cls := .type "dict", data := .dict #[] }).objs.size) (cloFrom_has (cells := X.env.cells) (acc := []) hy))
    rw [← hcl] at e'
    refine ⟨c', e', ?_⟩
    rw [hcl] at e'
    rcases cells_mem (PySem.mem_of_lookup e') with hm | ⟨h1, _, _⟩
    · exact (cm hm).1
    · have := ok.uniq _ h1
      rw [hl] at this; cases this
  have okB : (X.blk s H scope cenv fp).Ok := by
    refine ⟨I.ok.mod, by show cenv.scope.kind = _; rw [hsc]; exact ok.kind, by show cenv.globals = _; rw [← hcenv]; exact I.ok.glob, by show cenv.builtins = _; rw [← hcenv]; exact I.ok.blt, by show s.heap.objs.size ≤ cenv.locals; rw [hL]; exact Nat.le_refl _,
      fun y z c e1 e2 => ?_, fun y hy => ?_, fun y c z e => ?_, I.ok.hd, I.ok.frames, .inl rfl, fun b hb => ⟨?_, fun y c e z => ?_⟩, I.bs, Nat.le_trans I.ok.bsz I.sz, fun b o e hb => ?_, fun b hb z => ?_, I.stack, I.stkFree⟩
    · have e1 : cenv.cells.lookup y = some c := e1
      have e2 : cenv.cells.lookup z = some c := e2
      rw [hcl] at e1 e2
      refine cells_inj (fun p hp => ?_) (fun y z c a b => I.ok.inj y z c (cm a).1 (cm b).1) (PySem.mem_of_lookup e1) (PySem.mem_of_lookup e2)
      rw [Heap.size_push]
      exact Nat.lt_succ_of_lt (cm (y := p.1) (c := p.2) hp).2
    · show ∃ c, cenv.cells.lookup y = some c
      have key : ∀ k, cenv.kindOf y = some k → (k = .cell ∨ k = .free) → ∃ c, cenv.cells.lookup y = some c := fun k hk hk' => by
        unfold Env.kindOf at hk
        rw [hsc] at hk
        obtain ⟨k', e, r⟩ := lookup_relS hk
        have : k' = .cell ∨ k' = .free := by
          rcases r with rfl | ⟨rfl, _⟩
          · exact hk'
          · exact .inr rfl
        rcases this with rfl | rfl
        · obtain ⟨c, hm⟩ := cells_has (n := (s.heap.push { cls := .type "dict", data := .dict #[] }).objs.size) (acc := cloFrom X.env.cells scope.names []) (PySem.mem_of_lookup e)
          obtain ⟨c', e'⟩ := mem_lookup hm
          exact ⟨c', by rw [hcl]; exact e'⟩
        · obtain ⟨c, h1, _⟩ := look e
          exact ⟨c, h1⟩
      rcases hy with hy | hy
      · exact key _ hy (.inl rfl)
      · exact key _ hy (.inr rfl)
    · have z : (scope.names.lookup y == some NameKind.cell) = true := z
      have z : scope.names.lookup y = some .cell := by simpa using z
      have e : cenv.cells.lookup y = some c := e
      rw [hcl] at e
      rcases cells_mem (PySem.mem_of_lookup e) with hm | ⟨_, h2, _⟩
      · rcases cloFrom_mem hm with hm | ⟨h1, _⟩
        · cases hm
        · have q := ok.uniq _ h1
          rw [z] at q; cases q
      · rw [Heap.size_push] at h2
        exact Nat.le_of_succ_le h2
    · show b ≠ cenv.locals
      rw [hL]; exact Nat.ne_of_lt (hfp b hb).2
    · have e : cenv.cells.lookup y = some c := e
      rcases mem e with ⟨h1, _⟩ | ⟨h1, _⟩
      · exact (hfp b hb).1.2.2.2.2.1 y c h1 z
      · have h2 : s.heap.objs.size + 1 ≤ b := by rw [← z]; exact h1
        exact absurd (Nat.lt_of_lt_of_le (hfp b hb).2 (Nat.le_of_succ_le h2)) (Nat.lt_irrefl _)
    · rcases (hfp b hb).1.2.2.2.1 with z | z
      · exact I.ok.noex b o e z
      · exact absurd (Nat.lt_of_lt_of_le (Heap.lt_size e) (Nat.le_trans I.ok.bsz z)) (Nat.lt_irrefl _)
    · rcases List.mem_cons.mp (I.stkSub b z) with z | z
      · exact (hfp b hb).1.2.1 z
      · exact (hfp b hb).1.2.2.1 z
  refine ⟨okB, rfl, I.bare, Un.kept kp, ⟨fun _ => none, ?_, fun i y av e1 e2 e3 => ?_⟩, fun y c e => ?_, ?_, fun y c e => ?_, fun p hp => ?_, I.hok.kept kp, by rw [wipe_length]; exact I.len⟩
  · show Heap.Ns _ cenv.locals _
    rw [hL]
    exact Heap.Ns.keeps (Heap.Ns.new ..) fun b o e => pushCells_keeps _ _ _ _ e
  · obtain ⟨e2, hne⟩ := wipe_some e2
    have hfr : scope.names.lookup y = some .free ∧ (cenv.kindOf y = some .cell ∨ cenv.kindOf y = some .free) := by
      have key : ∀ k, cenv.scope.names.lookup y = some k → k = .local ∨ k = .cell ∨ k = .free → scope.names.lookup y = some .free ∧ (cenv.kindOf y = some .cell ∨ cenv.kindOf y = some .free) := fun k hk hk' => by
        have hk0 := hk
        rw [hsc] at hk
        obtain ⟨k', e, r⟩ := lookup_relS hk
        have no : ¬ (k' = .local ∨ k' = .cell) := fun hh => by
          rcases ok.own _ (PySem.mem_of_lookup e) hh with e' | e'
          · obtain ⟨p, hp, hpy⟩ := List.mem_map.mp e'
            have e3 := ok.ix p hp
            have : p.1 = y := hpy
            rw [this] at e3
            exact hne (List.mem_map.mpr ⟨p, hp, nodup_ix hN e3 e1⟩)
          · exact e' (List.mem_of_getElem? e1)
        rcases r with rfl | ⟨rfl, rfl⟩
        · rcases hk' with rfl | rfl | rfl
          · exact absurd (.inl rfl) no
          · exact absurd (.inr rfl) no
          · exact ⟨e, .inr hk0⟩
        · exact ⟨e, .inl hk0⟩
      have e3 : Vis cenv.scope y := e3
      rcases e3 with e3 | e3 | e3
      · exact key _ e3 (.inl rfl)
      · exact key _ e3 (.inr (.inl rfl))
      · exact key _ e3 (.inr (.inr rfl))
    obtain ⟨m, hn, hl⟩ := I.loc
    have hvis : Vis X.env.scope y := (ok.free _ (PySem.mem_of_lookup hfr.1) rfl).elim (fun k => .inr (.inl k)) (fun k => .inr (.inr k))
    obtain ⟨w, r, q⟩ := hl i y av e1 e2 hvis
    refine ⟨w, r, .inr ⟨hfr.2, ?_⟩⟩
    obtain ⟨c, h1, h2⟩ := look hfr.1
    rcases q with ⟨k, _⟩ | ⟨_, c', e', z⟩
    · have k : X.env.scope.names.lookup y = some .local := k
      rcases ok.free _ (PySem.mem_of_lookup hfr.1) rfl with k' | k' <;> rw [show X.env.scope.names.lookup y = _ from k'] at k <;> cases k
    · rw [h2] at e'; cases e'
      exact ⟨c, h1, z.keeps kp⟩
  · have e : cenv.cells.lookup y = some c := e
    rcases mem e with ⟨h1, _⟩ | ⟨_, z⟩
    · obtain ⟨w, z⟩ := I.cell y c h1
      exact ⟨w, z.keeps kp⟩
    · exact ⟨_, z⟩
  · show H cenv.locals = none
    rw [hL]; exact I.hok.fresh (Nat.le_refl _)
  · have e : cenv.cells.lookup y = some c := e
    rcases mem e with ⟨h1, _⟩ | ⟨h1, _⟩
    · exact I.freeC y c h1
    · exact I.hok.fresh (Nat.le_of_succ_le h1)
  · exact absurd (show p ∈ ([] : List (Addr × Obj)) ++ [] from hp) (by simp)

/-- an item appended to a tracked list -/
theorem app_ok {E : Value → Shared → Prop} {D : Addr} {xs : List V} {y : V} {v : Value} {Q : Value → Shared → Prop} (I : Inv X pins σ H s) (hD : H D = some (.lst xs)) (hz : xs.length < sizeLine) (r : RelV y v)
    (h : ∀ s', Inv X pins σ (upd H D (.lst (xs ++ [y]))) s' → Q .none s') : wpAny (model X.prog X.w) X.A (call (.builtin "list.append") [.ref D, v]) Q E s := by
  obtain ⟨hz', its, n, ri, e⟩ := I.hok D _ hD
  have hl := ri.length
  refine append_at (hsz := by rw [List.size_toArray]; omega) e fun h' sb ho' => ?_
  refine h { s with heap := h' } (I.write (t' := s.toks) (by rw [hD]; trivial) (.inl rfl) (fun b u hb q => (sb.2 b hb).trans q) ⟨_, ho'⟩ ⟨by rw [List.length_append]; exact hz, its ++ [v], n + 1, ri.append (.cons r .nil), ?_⟩)
  rw [ho']
  simp

/-- a clause's tests -/
def PTs (X : Cx) (ifs : List Expr) (t : TT) : Prop :=
  ∀ (pins : List (Addr × Obj)) (s : Shared) (σ : St) (H : Hp) (Q : Bool → Hp → Prop), Inv X pins σ H s → t σ H Q →
    wpAny (model X.prog X.w) X.A (forIn ifs true fun c r => if r = true then do let ok ← isTrue c X.env (eval c X.env); pure (ForInStep.yield ok) else pure (ForInStep.yield r)) (TP X pins σ Q) X.xe s
def tYes : TT := fun _ H Q => Q true H
theorem pts_nil : PTs X [] tYes := fun _ _ _ H _ I h => wpAny_tests_nil ⟨H, I, h⟩
theorem pts_one {c : Expr} {t : TT} (h : PT X c t) : PTs X [c] t := fun pins s σ H Q I hw => wpAny_tests_one (h pins s σ H Q I hw)
end

theorem thnF {α : Type} {t : Sem α} {Q Q' : α → Shared → Prop} {M : Model} {A : Around} {E : Value → Shared → Prop} {s : Shared} (h : wpAny M A t Q (fun _ _ => False) s) (hQ : ∀ a s, Q a s → Q' a s) : wpAny M A t Q' E s := wpAny_mono h hQ fun _ _ z => False.elim z

/-- the loop of a list comprehension's block, the target of any form (codeAny_compLoop_tests asks a target that no tuple goes to; statement and proof follow it, PyProof/CompMap.lean:41-61, with the step letOwnedTupleGo kept) -/
theorem compLoop_any {prog : Program} {w : World} {A : Around} {R : Result → Shared → Prop} {s : Shared} {elt target iter : Expr} {ifs : List Expr} {scope : Scope} {pos : Pos} {it acc : Value} {env : Env} (I : Nat → Shared → Prop)
    (turn : ∀ n s, I n s → wpAny (model prog w) A (pyNext it) (fun r s₁ => match r with
      | none => R (.ok .next) s₁
      | some v => wpAny (model prog w) A (letOwnedTupleGo target it v) (fun _ s₁' => wpAny (model prog w) A (assign target env v) (fun _ s₂ =>
          wpAny (model prog w) A (forIn ifs true fun c r => if r = true then do let ok ← isTrue c env (eval c env); pure (ForInStep.yield ok) else pure (ForInStep.yield r)) (fun ok s₃ =>
            if ok = true then wpAny (model prog w) A (eval elt env) (fun x s₄ =>
              wpAny (model prog w) A (call (.builtin "list.append") [acc, x]) (fun _ s₅ => ∃ m, m < n ∧ I m s₅) (notedBy (model prog w) A env fun e s' => R (.error e) s') s₄) (notedBy (model prog w) A env fun e s' => R (.error e) s') s₃
            else ∃ m, m < n ∧ I m s₃) (notedBy (model prog w) A env fun e s' => R (.error e) s') s₂) (notedBy (model prog w) A env fun e s' => R (.error e) s') s₁') (notedBy (model prog w) A env fun e s' => R (.error e) s') s₁) (notedBy (model prog w) A env fun e s' => R (.error e) s') s)
    (n : Nat) (h : I n s) :
    codeAny (model prog w) A (.compLoop (.ListComp elt [⟨target, iter, ifs, 0⟩] scope pos) 0 it acc env) R s := by
  refine codeAny_loop rfl I (fun n s hI => ?_) n h
  show wpAny _ A ((compTurn (.ListComp elt [⟨target, iter, ifs, 0⟩] scope pos) 0 it acc env).onRaise (fun x => do noteFrame x env; theTreesLotGoes x)) _ _ s
  refine wpAny_noted ?_
  rw [compTurn_list]
  refine wpAny_bind (wpAny_standAt (wpAny_bind (wpAny_mono (turn n s hI) (fun r s₁ h₁ => ?_) fun _ _ h' => h')))
  cases r with
  | none => exact wpAny_pure h₁
  | some v =>
    refine wpAny_bind (wpAny_mono h₁ (fun _ s₁' h₁' => ?_) fun _ _ h' => h')
    refine wpAny_bind (wpAny_mono h₁' (fun _ s₂ h₂ => wpAny_bind (wpAny_mono h₂ (fun ok s₃ h₃ => ?_) fun _ _ h' => h')) fun _ _ h' => h')
    cases ok with
    | false => exact wpAny_pure ⟨rfl, h₃⟩
    | true =>
      exact wpAny_bind (wpAny_bind (wpAny_mono h₃ (fun x s₄ h₄ => wpAny_bind (wpAny_mono h₄ (fun _ s₅ h₅ => wpAny_pure (wpAny_pure ⟨rfl, h₅⟩)) fun _ _ h' => h')) fun _ _ h' => h'))

section
variable {X : Cx}
/-- [elt for target in iter if ..]: D the new list; W by the turn and a measure, Nx what a turn is to reach -/
def tLc (wi : TI) (g : TG) (tt : TT) (te : TE) (vs : List Nat) : TE := fun σ H Q => wi σ H fun J H1 => ∀ D, H1 D = none → ∃ W : Nat → Nat → Hp → Prop, (∃ m, W 0 m (upd H1 D (.lst []))) ∧ ∀ i m H, W i m H →
  (J.stop i H ∧ Q (.ref D) H) ∨ (J.go i H ∧ ∃ Nx : Hp → Prop, (∀ H', Nx H' → ∃ m', m' < m ∧ W (i + 1) m' H') ∧ ∀ x H', J.yld i H x H' → g x (wipe σ vs) H' fun σ2 H2 => wipe σ2 vs = wipe σ vs ∧ tt σ2 H2 fun b H3 =>
    if b = true then te σ2 H3 fun y H4 => ∃ acc, H4 D = some (.lst acc) ∧ acc.length < sizeLine ∧ Nx (upd H4 D (.lst (acc ++ [y]))) else Nx H3)
theorem lc_core {pins : List (Addr × Obj)} {s : Shared} {σ : St} {H : Hp} {Q : VK} {elt tg iter : Expr} {ifs : List Expr} {scope : Scope} {own : List (Str × Nat)} {pos pos' : Pos} {wi : TI} {g : TG} {tt : TT} {te : TE} {use : Option (Value → Sem Unit)} {Qf : Value → Shared → Prop}
    (hc : X.calm = true) (hN : X.N.Nodup) (I : Inv X pins σ H s) (hi : PI X tg iter wi) (ok : BlkOk X.N X.env.scope scope own)
    (hg : ∀ (s : Shared) (H : Hp) (C : Addr) (cl : List (Str × Addr)) (fp : List Addr), PG (X.blk s H scope (compEnvC scope cl C X.env) fp) tg g) (ht : ∀ (s : Shared) (H : Hp) (C : Addr) (cl : List (Str × Addr)) (fp : List Addr), PTs (X.blk s H scope (compEnvC scope cl C X.env) fp) ifs tt)
    (he : ∀ (s : Shared) (H : Hp) (C : Addr) (cl : List (Str × Addr)) (fp : List Addr), PE (X.blk s H scope (compEnvC scope cl C X.env) fp) elt te) (hs : ∀ x, foldedSetIterable iter X.env x = pure x)
    (h : tLc wi g tt te (own.map (·.2)) σ H Q)
    (hRR : ∀ D C s' m H', Inv X pins σ H' s' → Q (.ref D) H' → s'.heap.Ns C m → FpOk X pins H' C → compPost (model X.prog X.w) X.A X.xe use Qf (.ref D) C (.ok .next) s') :
    wpAny (model X.prog X.w) X.A (comprehension (.ListComp elt [⟨tg, iter, ifs, 0⟩] scope pos) scope X.env pos' (newList []) false (eval iter X.env) use) Qf X.xe s := by
  have hfree : ∀ y ∈ scope.names, y.2 = .free → ∃ c, X.env.cells.lookup y.1 = some c := fun y hy e => by
    rcases ok.free y hy e with k | k
    · exact I.ok.has _ (.inl k)
    · exact I.ok.has _ (.inr k)
  refine wpAny_comprehension_free (use := use) rfl hs (closure_ok hfree) ok.kind (fun y hy e => by rw [ok.uniq y hy, e])
    (thn (hi pins s σ H _ I h) fun xv s1 hx => thn hx fun itv s2 h2 => ?_)
  obtain ⟨it, fp, tn, J, H2, e, I2, T, st2, f2, q⟩ := h2
  subst e
  refine wpAny_newObj_type (newEnv_comp ?_) (by show 0 ≤ sizeLine; decide)
  generalize hD : s2.heap.objs.size = D
  have hDn : H2 D = none := I2.hok.fresh (Nat.le_of_eq hD)
  obtain ⟨W, ⟨m0, w0⟩, turn⟩ := q D hDn
  -- the new list
  generalize hs3 : ({ s2 with heap := s2.heap.push { cls := .type "list", data := .seq ([] : List Value).toArray } } : Shared) = s3
  have I3 : Inv X pins σ (upd H2 D (.lst [])) s3 := by
    rw [← hs3]
    refine I2.laid (t' := s2.toks) (fun b o e => Heap.get?_push_of_some _ e) (Nat.le_of_eq hD) ⟨Nat.zero_le _, [], 0, .nil, ?_⟩
    rw [← hD]
    exact Heap.get?_push_size _ rfl
  have h3 : s3.heap = s2.heap.push { cls := .type "list", data := .seq ([] : List Value).toArray } := by rw [← hs3]
  have sz : ∀ b ∈ fp, b < s2.heap.objs.size := fun b hb => by
    obtain ⟨o, e, _⟩ := T.obj _ _ st2 b hb
    exact Heap.lt_size e
  have f3 : ∀ b ∈ fp, FpOk X pins (upd H2 D (.lst [])) b ∧ b < s3.heap.objs.size := fun b hb => by
    have hlt := sz b hb
    refine ⟨⟨?_, (f2 b hb).2⟩, by rw [h3, Heap.size_push]; exact Nat.lt_succ_of_lt hlt⟩
    rw [upd_ne (by rw [← hD]; exact Nat.ne_of_lt hlt)]
    exact (f2 b hb).1
  have st3 : tn 0 s3.heap := T.keep _ _ _ st2 fun b _ o e => by rw [h3]; exact Heap.get?_push_of_some _ e
  have I4 := block_start I3 ok hN f3
  have pg := hg s3 (upd H2 D (.lst [])) s3.heap.objs.size (cellsFrom (s3.heap.objs.size + 1) scope.names (cloFrom X.env.cells scope.names [])) fp
  have pt := ht s3 (upd H2 D (.lst [])) s3.heap.objs.size (cellsFrom (s3.heap.objs.size + 1) scope.names (cloFrom X.env.cells scope.names [])) fp
  have pe := he s3 (upd H2 D (.lst [])) s3.heap.objs.size (cellsFrom (s3.heap.objs.size + 1) scope.names (cloFrom X.env.cells scope.names [])) fp
  show codeAny _ _ (.compStart (.ListComp elt [⟨tg, iter, ifs, 0⟩] scope pos) 0 (.ref it) (.ref D) (compEnvC scope (cellsFrom (s3.heap.objs.size + 1) scope.names (cloFrom X.env.cells scope.names [])) s3.heap.objs.size X.env)) (compPost (model X.prog X.w) X.A X.xe use Qf (.ref D) s3.heap.objs.size) { s3 with heap := pushCells (s3.heap.push { cls := .type "dict", data := .dict #[] }) scope.names }
  have nfp : ∀ b ∈ fp, (upd H2 D (.lst [])) b = none := fun b hb => (f3 b hb).1.1
  generalize hce : compEnvC scope (cellsFrom (s3.heap.objs.size + 1) scope.names (cloFrom X.env.cells scope.names [])) s3.heap.objs.size X.env = ce at I4 pg pt pe ⊢
  have cL : ce.locals = s3.heap.objs.size := by subst hce; rfl
  generalize hH3 : upd H2 D (.lst []) = H3 at I3 I4 pg pt pe w0 nfp f3
  generalize hs4 : ({ s3 with heap := pushCells (s3.heap.push { cls := .type "dict", data := .dict #[] }) scope.names } : Shared) = s4 at I4 ⊢
  have st4 : tn 0 s4.heap := T.keep _ _ _ st3 fun b _ o e => by rw [← hs4]; exact pushCells_keeps _ _ _ _ (Heap.get?_push_of_some _ e)
  have stat : ∀ {σ' : St} {H' : Hp} {s' : Shared}, Inv (X.blk s3 H3 scope ce fp) [] σ' H' s' → (∀ b ∈ fp, H' b = none) → ∀ b ∈ fp, FpOk (X.blk s3 H3 scope ce fp) [] H' b := fun {σ' H' s'} I' hn b hb =>
    ⟨hn b hb, (I'.ok.exf b hb).1, I'.ok.exfs b hb, .inl hb, fun x c e => (I'.ok.exf b hb).2 x c e, fun p hp => absurd (show p ∈ ([] : List (Addr × Obj)) ++ [] from hp) (by simp)⟩
  have loop : codeAny (model X.prog X.w) X.A (.compLoop (.ListComp elt [⟨tg, iter, ifs, 0⟩] scope pos) 0 (.ref it) (.ref D) ce) (compPost (model X.prog X.w) X.A X.xe use Qf (.ref D) s3.heap.objs.size) s4 := by
    refine compLoop_any (fun n s' => ∃ i H', Inv (X.blk s3 H3 scope ce fp) [] (wipe σ (own.map (·.2))) H' s' ∧ tn i s'.heap ∧ (∀ b ∈ fp, H' b = none) ∧ W i n H') ?_ m0 ⟨0, H3, I4, st4, nfp, w0⟩
    rintro n s5 ⟨i, H5, I5, st5, n5, w5⟩
    rcases turn i n H5 w5 with ⟨stop, qq⟩ | ⟨go, Nx, hNx, step⟩
    · have td := T.done (X.blk s3 H3 scope ce fp) rfl rfl rfl hc i [] s5 _ H5 (fun _ _ => False) I5 (stat I5 n5) st5 stop
      refine thnF td fun r s6 ⟨hr, I6⟩ => ?_
      subst hr
      -- back in the def's context
      have I7 : Inv X pins σ H5 s6 := I3.call' (ch := fp) I6.os I6.base I6.hok I6.bare fun b hb => ⟨(f3 b hb).1.2.2.2.1, (f3 b hb).1.2.1, (f3 b hb).1.2.2.2.2.1, (f3 b hb).1.2.2.2.2.2⟩
      have nC : H5 s3.heap.objs.size = none := by
        have z : H5 ce.locals = none := I6.free
        rw [cL] at z
        exact z
      obtain ⟨m, hn, _⟩ := I6.loc
      have hn : s6.heap.Ns ce.locals m := hn
      rw [cL] at hn
      exact hRR D s3.heap.objs.size s6 m H5 I7 qq hn (I3.fpOk (Nat.le_refl _) nC)
    · have ti := T.item (X.blk s3 H3 scope ce fp) rfl rfl rfl hc i [] s5 _ H5 (fun _ _ => False) I5 (stat I5 n5) st5 go
      refine thnF ti fun r s6 ⟨u, hr, h6⟩ => ?_
      subst hr
      refine thnF h6 fun _ s7 ⟨x, H7, I7, r7, y7, st7, n7⟩ => ?_
      have I7' := I7.pinned (stat I7 n7) (T.obj _ _ st7)
      refine thnF (pg _ s7 _ H7 x u _ I7' r7 (step x H7 y7)) fun _ s8 ⟨σ8, H8, I8, hw8, q8⟩ => ?_
      refine thnF (pt _ s8 σ8 H8 _ I8 q8) fun b s9 ⟨H9, I9, q9⟩ => ?_
      -- the turn's end
      have fin : ∀ {s' : Shared} {H' : Hp}, Inv (X.blk s3 H3 scope ce fp) ([] ++ pinsAt fp s7.heap) σ8 H' s' → Nx H' → ∃ m, m < n ∧ ∃ i H', Inv (X.blk s3 H3 scope ce fp) [] (wipe σ (own.map (·.2))) H' s' ∧ tn i s'.heap ∧ (∀ b ∈ fp, H' b = none) ∧ W i m H' := fun {s' H'} I' nx => by
        obtain ⟨m', hm, w'⟩ := hNx H' nx
        have pin' : ∀ b ∈ fp, ∀ o, s7.heap.get? b = some o → s'.heap.get? b = some o ∧ H' b = none := fun b hb o e =>
          let z := I'.pin (b, o) (List.mem_append_right _ (List.mem_append_right _ (mem_pinsAt hb e)))
          ⟨z.1, z.2.1⟩
        have hl : (wipe σ (own.map (·.2))).length = σ8.length := by rw [← hw8, wipe_length]
        refine ⟨m', hm, i + 1, H', (I'.unpinned (pins := [])).weak hl (fun j v e => ?_), T.keep _ _ _ st7 fun b hb o e => (pin' b hb o e).1, fun b hb => ?_, w'⟩
        · rw [← hw8] at e
          exact (wipe_some e).1
        · obtain ⟨o, e, _⟩ := T.obj _ _ st7 b hb
          exact (pin' b hb o e).2
      cases b with
      | false =>
        simp only [Bool.false_eq_true, if_false] at q9 ⊢
        exact fin I9 q9
      | true =>
        simp only [if_true] at q9 ⊢
        refine thnF (pe _ s9 σ8 H9 _ I9 q9) fun z s10 ⟨yv, H10, I10, r10, acc, hD10, hz10, nx⟩ => ?_
        exact app_ok (X := X.blk s3 H3 scope ce fp) I10 hD10 hz10 r10 fun s11 I11 => fin I11 nx
  exact codeAny_compStart_list loop (T.self X.A 0 _ _ _ st4 loop)
/-- as a value -/
theorem pe_lc {elt tg iter : Expr} {ifs : List Expr} {scope : Scope} {own : List (Str × Nat)} {pos : Pos} {wi : TI} {g : TG} {tt : TT} {te : TE} (hc : X.calm = true) (hN : X.N.Nodup) (hi : PI X tg iter wi) (ok : BlkOk X.N X.env.scope scope own)
    (hg : ∀ (s : Shared) (H : Hp) (C : Addr) (cl : List (Str × Addr)) (fp : List Addr), PG (X.blk s H scope (compEnvC scope cl C X.env) fp) tg g) (ht : ∀ (s : Shared) (H : Hp) (C : Addr) (cl : List (Str × Addr)) (fp : List Addr), PTs (X.blk s H scope (compEnvC scope cl C X.env) fp) ifs tt)
    (he : ∀ (s : Shared) (H : Hp) (C : Addr) (cl : List (Str × Addr)) (fp : List Addr), PE (X.blk s H scope (compEnvC scope cl C X.env) fp) elt te) (hs : ∀ x, foldedSetIterable iter X.env x = pure x := by intro _; rfl) :
    PE X (.ListComp elt [⟨tg, iter, ifs, 0⟩] scope pos) (tLc wi g tt te (own.map (·.2))) := by
  intro pins s σ H Q I h
  rw [eval_ListComp]
  refine lc_core hc hN I hi ok hg ht he hs h fun D C s' m H' I' q hn f => ⟨m, hn, fun h'' sb => ?_⟩
  obtain ⟨f0, f1, f2, f3, f4, f5⟩ := f
  exact ⟨.ref D, H', I'.turned (t' := s'.toks) (fun b o hb e => (sb.2 b hb).trans e) f0 f1 f3 f4 f5, rfl, q⟩
/-- name = [..] on one line, the name a local -/
theorem ps_setLc {i : Nat} {y : Str} {py : Pos} {elt tg iter : Expr} {ifs : List Expr} {scope : Scope} {own : List (Str × Nat)} {pos spos : Pos} {wi : TI} {g : TG} {tt : TT} {te : TE} (hc : X.calm = true) (hN : X.N.Nodup) (hy : X.N[i]? = some y) (hyl : X.env.scope.names.lookup y = some .local)
    (hsw : swapsWith (.ListComp elt [⟨tg, iter, ifs, 0⟩] scope pos) (some (.Name y py)) spos.line X.env = pure true) (hi : PI X tg iter wi) (ok : BlkOk X.N X.env.scope scope own)
    (hg : ∀ (s : Shared) (H : Hp) (C : Addr) (cl : List (Str × Addr)) (fp : List Addr), PG (X.blk s H scope (compEnvC scope cl C X.env) fp) tg g) (ht : ∀ (s : Shared) (H : Hp) (C : Addr) (cl : List (Str × Addr)) (fp : List Addr), PTs (X.blk s H scope (compEnvC scope cl C X.env) fp) ifs tt)
    (he : ∀ (s : Shared) (H : Hp) (C : Addr) (cl : List (Str × Addr)) (fp : List Addr), PE (X.blk s H scope (compEnvC scope cl C X.env) fp) elt te) (hs : ∀ x, foldedSetIterable iter X.env x = pure x := by intro _; rfl) :
    PS X (.Assign [.Name y py] (.ListComp elt [⟨tg, iter, ifs, 0⟩] scope pos) spos) (tAsg (tLc wi g tt te (own.map (·.2))) (gName i)) := by
  intro pins s σ H D I h
  rw [exec_Assign_Name_used _ _ _ _ hsw]
  refine wpAny_bind (wpAny_standAt (wpAny_bind ?_))
  show wpAny _ X.A (do let _ ← comprehension (.ListComp elt [⟨tg, iter, ifs, 0⟩] scope pos) scope X.env (firstIterPos [⟨tg, iter, ifs, 0⟩] pos) (newList []) false (eval iter X.env) (some (assign (.Name y py) X.env))) _ _ s
  have h : tLc wi g tt te (own.map (·.2)) σ H (fun x H1 => gName i x σ H1 D.nx) := h
  refine wpAny_bind (thn (lc_core (Qf := fun _ s' => SP X pins D .next s') hc hN I hi ok hg ht he hs h fun L C s' m H' I' q hn f => ?_) fun _ s' hq => wpAny_pure (wpAny_pure hq))
  show wpAny _ _ (assign (.Name y py) X.env (.ref L)) _ _ _
  refine wpAny_assign_Name (store_ok2 (v := V.ref L) I' hN hy (.inl hyl) rfl (fun s2 I2 ⟨a, sb, ha⟩ => ?_) (.inr hyl))
  obtain ⟨f0, f1, f2, f3, f4, f5⟩ := f
  have haC : C ≠ a := by
    rcases ha with z | z
    · rw [z]; exact f1
    · exact fun e => f4 y a z e.symm
  refine ⟨m, hn.sameBut sb haC, fun h3 sb3 => ?_⟩
  exact ⟨_, H', I2.turned (t' := s2.toks) (fun b o hb e => (sb3.2 b hb).trans e) f0 f1 f3 f4 f5, q⟩
theorem sw_true {elt : Expr} {gs : List Comprehension} {scope : Scope} {pos py : Pos} {y : Str} {l : Nat} {env : Env} (hk : env.scope.kind = .function) (hy : env.scope.names.lookup y = some .local) (hl : (py.line == pos.line) = true)
    (ha : (scope.names.any fun (n, k) => n == y && (k == .local || k == .cell)) = false) : swapsWith (.ListComp elt gs scope pos) (some (.Name y py)) l env = pure true := by
  have ky : env.kindOf y = some .local := hy
  have hb : env.blockKind = .function := by unfold Env.blockKind; rw [hk]; rfl
  unfold swapsWith
  simp only [hb, ky, ha, Expr.pos, hl]
  rfl
end

/-! ### the forms one uses -/
/-- over a range: Pv by the turn and the heap (the new list at D within) -/
theorem lc_range {lo : Int} {n : Nat} {g : TG} {tt : TT} {te : TE} {vs : List Nat} {σ : St} {H1 : Hp} {D : Addr} {Qd : Hp → Prop} (Pv : Nat → Hp → Prop) (h0 : Pv 0 (upd H1 D (.lst [])))
    (hs : ∀ i H, i < n → Pv i H → g (.int (lo + i)) (wipe σ vs) H fun σ2 H2 => wipe σ2 vs = wipe σ vs ∧ tt σ2 H2 fun b H3 =>
      if b = true then te σ2 H3 fun y H4 => ∃ acc, H4 D = some (.lst acc) ∧ acc.length < sizeLine ∧ Pv (i + 1) (upd H4 D (.lst (acc ++ [y]))) else Pv (i + 1) H3) (hd : ∀ H, Pv n H → Qd H) :
    ∃ W : Nat → Nat → Hp → Prop, (∃ m, W 0 m (upd H1 D (.lst []))) ∧ ∀ i m H, W i m H →
      ((Itr lo n).stop i H ∧ Qd H) ∨ ((Itr lo n).go i H ∧ ∃ Nx : Hp → Prop, (∀ H', Nx H' → ∃ m', m' < m ∧ W (i + 1) m' H') ∧ ∀ x H', (Itr lo n).yld i H x H' → g x (wipe σ vs) H' fun σ2 H2 => wipe σ2 vs = wipe σ vs ∧ tt σ2 H2 fun b H3 =>
        if b = true then te σ2 H3 fun y H4 => ∃ acc, H4 D = some (.lst acc) ∧ acc.length < sizeLine ∧ Nx (upd H4 D (.lst (acc ++ [y]))) else Nx H3) := by
  refine ⟨fun i m H => m = n - i ∧ i ≤ n ∧ Pv i H, ⟨n, by simp, Nat.zero_le _, h0⟩, ?_⟩
  rintro i m H ⟨rfl, hi, p⟩
  by_cases hlt : i < n
  · refine .inr ⟨hlt, Pv (i + 1), fun H' p' => ⟨n - (i + 1), by omega, rfl, hlt, p'⟩, fun x H' y => ?_⟩
    obtain ⟨e, y⟩ := y
    subst e y
    exact hs i _ hlt p
  · have e : i = n := by omega
    subst e
    exact .inl ⟨Nat.le_refl _, hd H p⟩
/-- over a list that the block leaves as it is -/
theorem lc_list {K : PySem.W.Frag} {a : Addr} {xs : List V} {g : TG} {tt : TT} {te : TE} {vs : List Nat} {σ : St} {H1 : Hp} {D : Addr} {Qd : Hp → Prop} (Pv : Nat → Hp → Prop) (h0 : Pv 0 (upd H1 D (.lst []))) (hl : ∀ i H, i ≤ xs.length → Pv i H → SqL K H a xs)
    (hs : ∀ i x H, xs[i]? = some x → Pv i H → g x (wipe σ vs) H fun σ2 H2 => wipe σ2 vs = wipe σ vs ∧ tt σ2 H2 fun b H3 =>
      if b = true then te σ2 H3 fun y H4 => ∃ acc, H4 D = some (.lst acc) ∧ acc.length < sizeLine ∧ Pv (i + 1) (upd H4 D (.lst (acc ++ [y]))) else Pv (i + 1) H3) (hd : ∀ H, Pv xs.length H → Qd H) :
    ∃ W : Nat → Nat → Hp → Prop, (∃ m, W 0 m (upd H1 D (.lst []))) ∧ ∀ i m H, W i m H →
      ((Itl K a).stop i H ∧ Qd H) ∨ ((Itl K a).go i H ∧ ∃ Nx : Hp → Prop, (∀ H', Nx H' → ∃ m', m' < m ∧ W (i + 1) m' H') ∧ ∀ x H', (Itl K a).yld i H x H' → g x (wipe σ vs) H' fun σ2 H2 => wipe σ2 vs = wipe σ vs ∧ tt σ2 H2 fun b H3 =>
        if b = true then te σ2 H3 fun y H4 => ∃ acc, H4 D = some (.lst acc) ∧ acc.length < sizeLine ∧ Nx (upd H4 D (.lst (acc ++ [y]))) else Nx H3) := by
  refine ⟨fun i m H => m = xs.length - i ∧ i ≤ xs.length ∧ Pv i H, ⟨xs.length, by simp, Nat.zero_le _, h0⟩, ?_⟩
  rintro i m H ⟨rfl, hi, p⟩
  have q := hl i H hi p
  by_cases hlt : i < xs.length
  · refine .inr ⟨⟨xs, xs[i], q, by simp [hlt]⟩, Pv (i + 1), fun H' p' => ⟨xs.length - (i + 1), by omega, rfl, hlt, p'⟩, fun x H' y => ?_⟩
    obtain ⟨e, y⟩ := y
    subst e
    exact hs i x _ (y xs q) p
  · have e : i = xs.length := by omega
    subst e
    exact .inl ⟨⟨xs, q, Nat.le_refl _⟩, hd H p⟩
def blkC (N : List Str) (sc scope : Scope) (own : List (Str × Nat)) : Bool :=
  (match scope.kind with | .function => true | _ => false) && (scope.names.all fun y => decide (scope.names.lookup y.1 = some y.2)) && (own.all fun p => decide (N[p.2]? = some p.1)) &&
    (scope.names.all fun y => match y.2 with
      | .free => (match sc.names.lookup y.1 with | some .cell => true | some .free => true | _ => false)
      | .local => decide (y.1 ∈ own.map (·.1)) || decide (y.1 ∉ N)
      | .cell => decide (y.1 ∈ own.map (·.1)) || decide (y.1 ∉ N)
      | _ => true)
theorem blkOk_by {N : List Str} {sc scope : Scope} {own : List (Str × Nat)} (h : blkC N sc scope own = true) : BlkOk N sc scope own := by
  unfold blkC at h
  simp only [Bool.and_eq_true, List.all_eq_true, decide_eq_true_eq] at h
  obtain ⟨⟨⟨h1, h2⟩, h3⟩, h4⟩ := h
  refine ⟨?_, h2, h3, fun y hy e => ?_, fun y hy e => ?_⟩
  · split at h1
    · assumption
    · cases h1
  · have q := h4 y hy
    simp only [e] at q
    split at q <;> first | exact .inl (by assumption) | exact .inr (by assumption) | cases q
  · have q := h4 y hy
    rcases e with e | e <;> (simp only [e, Bool.or_eq_true, decide_eq_true_eq] at q; exact q)
end L2

namespace L2
open PySem PySem.Spec PyProof.Rows

section
variable {prog : Program} {w : World} {A : Around} {R : Result → Shared → Prop} {s : Shared} {elt t0 i0 t1 i1 : Expr} {ifs0 ifs1 : List Expr} {scope : Scope} {pos : Pos} {it acc : Value} {env : Env}
end

section
variable {X : Cx}
end
end L2

namespace L2
open PySem PySem.Spec PyProof.Rows

/-! ### lists of pairs as tables -/
section
variable {κ : Type} [DecidableEq κ]
def valV (kvs : List (κ × V)) (k : κ) : Option V := (kvs.find? fun kv => decide (kv.1 = k)).map (·.2)
/-- in its place, or at the end -/
def putK (kvs : List (κ × V)) (k : κ) (v : V) : List (κ × V) :=
  if (kvs.any fun kv => decide (kv.1 = k)) = true then kvs.map (fun kv => if kv.1 = k then (kv.1, v) else kv) else kvs ++ [(k, v)]
def dropK (kvs : List (κ × V)) (k : κ) : List (κ × V) := kvs.filter fun kv => decide (kv.1 ≠ k)

theorem valV_pos {p : κ × V} {r : List (κ × V)} {k : κ} (e : p.1 = k) : valV (p :: r) k = some p.2 := by simp [valV, List.find?_cons, e]
theorem valV_neg {p : κ × V} {r : List (κ × V)} {k : κ} (e : ¬ p.1 = k) : valV (p :: r) k = valV r k := by simp [valV, List.find?_cons, e]
theorem valV_any (k : κ) : ∀ kvs : List (κ × V), (kvs.any fun kv => decide (kv.1 = k)) = (valV kvs k).isSome
  | [] => rfl
  | p :: r => by
    rw [List.any_cons]
    by_cases e : p.1 = k
    · simp only [valV_pos e, decide_eq_true e, Bool.true_or, Option.isSome_some]
    · rw [valV_neg e, decide_eq_false e, Bool.false_or]; exact valV_any k r
theorem RelO.isSome_eq {o : Option V} {u : Option Value} (r : RelO o u) : o.isSome = u.isSome := by
  cases o with
  | none => cases u with
    | none => rfl
    | some _ => exact (show False from r).elim
  | some _ => cases u with
    | none => exact (show False from r).elim
    | some _ => rfl
theorem RelO.getD {o : Option V} {u : Option Value} {d : V} {d' : Value} (r : RelO o u) (rd : RelV d d') : RelV (o.getD d) (u.getD d') := by
  cases o with
  | none => cases u with
    | none => exact rd
    | some _ => exact (show False from r).elim
  | some _ => cases u with
    | none => exact (show False from r).elim
    | some _ => exact r

/-- raw tables of the same keys -/
theorem KV.val {kvs : List (κ × V)} {vs : List (κ × Value)} (r : KV kvs vs) (k : κ) : RelO (valV kvs k) (valueAt vs k) := by
  unfold KV at r
  induction r with
  | nil => exact True.intro
  | @cons p q ps qs h t ih =>
    obtain ⟨h1, h2⟩ := h
    by_cases e : p.1 = k
    · have e' : q.1 = k := h1.symm.trans e
      have b : valueAt (q :: qs) k = some q.2 := by simp [valueAt, List.find?_cons, e']
      rw [valV_pos e, b]; exact h2
    · have e' : ¬ q.1 = k := fun z => e (h1.trans z)
      have b : valueAt (q :: qs) k = valueAt qs k := by simp [valueAt, List.find?_cons, e']
      rw [valV_neg e, b]; exact ih
theorem KV.any {kvs : List (κ × V)} {vs : List (κ × Value)} (r : KV kvs vs) (k : κ) : (kvs.any fun kv => decide (kv.1 = k)) = vs.any fun kv => decide (kv.1 = k) := by
  unfold KV at r
  induction r with
  | nil => rfl
  | cons h t ih => rw [List.any_cons, List.any_cons, ih, h.1]
theorem KV.repl {kvs : List (κ × V)} {vs : List (κ × Value)} (r : KV kvs vs) (k : κ) {y : V} {u : Value} (ry : RelV y u) :
    KV (kvs.map fun kv => if kv.1 = k then (kv.1, y) else kv) (vs.map fun kv => if kv.1 = k then (kv.1, u) else kv) := by
  unfold KV at r ⊢
  induction r with
  | nil => exact .nil
  | @cons p q ps qs h t ih =>
    rw [List.map_cons, List.map_cons]
    refine .cons ?_ ih
    obtain ⟨h1, h2⟩ := h
    by_cases e : p.1 = k
    · rw [if_pos e, if_pos (h1.symm.trans e)]; exact ⟨h1, ry⟩
    · rw [if_neg e, if_neg (fun z => e (h1.trans z))]; exact ⟨h1, h2⟩
theorem KV.put {kvs : List (κ × V)} {vs : List (κ × Value)} (r : KV kvs vs) (k : κ) {y : V} {u : Value} (ry : RelV y u) : KV (putK kvs k y) (stored vs k u) := by
  unfold putK stored
  rw [r.any k]
  by_cases e : (vs.any fun kv => decide (kv.1 = k)) = true
  · rw [if_pos e, if_pos e]; exact r.repl k ry
  · rw [if_neg e, if_neg e]; exact Paired.snoc r ⟨rfl, ry⟩
theorem KV.drop {kvs : List (κ × V)} {vs : List (κ × Value)} (r : KV kvs vs) (k : κ) : KV (dropK kvs k) (without vs k) := by
  unfold KV at r ⊢
  unfold dropK without
  induction r with
  | nil => exact .nil
  | @cons p q ps qs h t ih =>
    obtain ⟨h1, h2⟩ := h
    rw [List.filter_cons, List.filter_cons]
    by_cases e : p.1 = k
    · have a : ¬ decide (p.1 ≠ k) = true := by simp [e]
      have b : ¬ decide (q.1 ≠ k) = true := by simp [h1.symm.trans e]
      rw [if_neg a, if_neg b]; exact ih
    · have e' : ¬ q.1 = k := fun z => e (h1.trans z)
      have a : decide (p.1 ≠ k) = true := by simp [e]
      have b : decide (q.1 ≠ k) = true := by simp [e']
      rw [if_pos a, if_pos b]; exact .cons ⟨h1, h2⟩ ih
theorem KV.keys {kvs : List (κ × V)} {vs : List (κ × Value)} (r : KV kvs vs) : kvs.map (·.1) = vs.map (·.1) := by
  unfold KV at r
  induction r with
  | nil => rfl
  | cons h t ih => rw [List.map_cons, List.map_cons, ih, h.1]
theorem KV.length {kvs : List (κ × V)} {vs : List (κ × Value)} (r : KV kvs vs) : kvs.length = vs.length := Paired.length r
end


/-! ### a tracked dict, its keys ints and texts or tuples of these -/
/-- raw entries of a dict with tuple keys -/
abbrev KT (H : Hp) : List (List Key × V) → List (List Key × Addr × Value) → Prop := Paired fun p q => p.1 = q.1 ∧ H q.2.1 = some (.tup (p.1.map kV)) ∧ RelV p.2 q.2.2
theorem KT.val {H : Hp} {kvs : List (List Key × V)} {xs : List (List Key × Addr × Value)} (r : KT H kvs xs) (k : List Key) : RelO (valV kvs k) ((atKey xs k).map (·.2)) := by
  induction r with
  | nil => exact True.intro
  | @cons p q ps qs h t ih =>
    obtain ⟨h1, _, h2⟩ := h
    by_cases e : p.1 = k
    · have e' : q.1 = k := h1.symm.trans e
      have b : atKey (q :: qs) k = some q.2 := by simp [atKey, List.find?_cons, e']
      rw [valV_pos e, b]; exact h2
    · have e' : ¬ q.1 = k := fun z => e (h1.trans z)
      have b : atKey (q :: qs) k = atKey qs k := by simp [atKey, List.find?_cons, e']
      rw [valV_neg e, b]; exact ih
theorem KT.repl {H : Hp} {kvs : List (List Key × V)} {xs : List (List Key × Addr × Value)} (r : KT H kvs xs) (k : List Key) {y : V} {u : Value} (ry : RelV y u) :
    KT H (kvs.map fun kv => if kv.1 = k then (kv.1, y) else kv) (xs.map (putAt k u)) := by
  induction r with
  | nil => exact .nil
  | @cons p q ps qs h t ih =>
    rw [List.map_cons, List.map_cons]
    refine .cons ?_ ih
    obtain ⟨h1, h2, h3⟩ := h
    unfold putAt
    by_cases e : p.1 = k
    · rw [if_pos e, if_pos (h1.symm.trans e)]; exact ⟨h1, h2, ry⟩
    · rw [if_neg e, if_neg (fun z => e (h1.trans z))]; exact ⟨h1, h2, h3⟩
theorem KT.put {H : Hp} {kvs : List (List Key × V)} {xs : List (List Key × Addr × Value)} (r : KT H kvs xs) (k : List Key) {b : Addr} {y : V} {u : Value} (hb : H b = some (.tup (k.map kV))) (ry : RelV y u) :
    KT H (putK kvs k y) (storedH xs k b u) := by
  have e : (kvs.any fun kv => decide (kv.1 = k)) = (atKey xs k).isSome := by
    rw [valV_any, (r.val k).isSome_eq, Option.isSome_map]
  unfold putK storedH
  rw [e]
  by_cases q : (atKey xs k).isSome = true
  · rw [if_pos q, if_pos q]; exact r.repl k ry
  · rw [if_neg q, if_neg q]; exact Paired.snoc r ⟨rfl, hb, ry⟩
theorem KT.keeps {H H' : Hp} {kvs : List (List Key × V)} {xs : List (List Key × Addr × Value)} (r : KT H kvs xs) (ht : ∀ b ys, H b = some (.tup ys) → H' b = some (.tup ys)) : KT H' kvs xs :=
  Paired.mapP r fun _ _ z => ⟨z.1, ht _ _ z.2.1, z.2.2⟩

section
variable {P : Program} {w : World} {H : Hp} {h : Heap} {a : Addr}
end

/-- what the dict at a holds at the key y -/
def DGet (H : Hp) (a : Addr) (y : V) (r : Option V) : Prop :=
  (∃ kvs k, Rd H a (.dK kvs) ∧ y = kV k ∧ r = valV kvs k) ∨ ∃ kvs k b, Rd H a (.dT kvs) ∧ y = .ref b ∧ H b = some (.tup (k.map kV)) ∧ r = valV kvs k
/-- the heap behind a[y] = v -/
def DPut (H : Hp) (a : Addr) (y v : V) (H' : Hp) : Prop :=
  (∃ kvs k, H a = some (.dK kvs) ∧ y = kV k ∧ kvs.length < sizeLine ∧ H' = upd H a (.dK (putK kvs k v))) ∨
  ∃ kvs k b, H a = some (.dT kvs) ∧ y = .ref b ∧ H b = some (.tup (k.map kV)) ∧ kvs.length < sizeLine ∧ H' = upd H a (.dT (putK kvs k v))
theorem DGet.k {H : Hp} {a : Addr} {kvs : List (Key × V)} {k : Key} (e : H a = some (.dK kvs)) : DGet H a (kV k) (valV kvs k) := .inl ⟨kvs, k, .inl e, rfl, rfl⟩
theorem DGet.t {H : Hp} {a b : Addr} {kvs : List (List Key × V)} {k : List Key} (e : H a = some (.dT kvs)) (eb : H b = some (.tup (k.map kV))) : DGet H a (.ref b) (valV kvs k) := .inr ⟨kvs, k, b, .inl e, rfl, eb, rfl⟩
theorem DPut.k {H : Hp} {a : Addr} {kvs : List (Key × V)} {k : Key} {v : V} (e : H a = some (.dK kvs)) (hl : kvs.length < sizeLine) : DPut H a (kV k) v (upd H a (.dK (putK kvs k v))) := .inl ⟨kvs, k, e, rfl, hl, rfl⟩
theorem DPut.t {H : Hp} {a b : Addr} {kvs : List (List Key × V)} {k : List Key} {v : V} (e : H a = some (.dT kvs)) (eb : H b = some (.tup (k.map kV))) (hl : kvs.length < sizeLine) :
    DPut H a (.ref b) v (upd H a (.dT (putK kvs k v))) := .inr ⟨kvs, k, b, e, rfl, eb, hl, rfl⟩


section
variable {X : Cx} {pins : List (Addr × Obj)} {σ : St} {H : Hp} {s : Shared} {a : Addr} {y v : V} {u r : Value} {o : Option V} {A : Around} {E : Value → Shared → Prop}

theorem Inv.big (I : Inv X pins σ H s) : sysModules < s.heap.objs.size := by
  have h : mainGlobals < s.heap.objs.size := (I.mod.glob.keeps I.bk).lt
  exact Nat.lt_trans (by decide) h

end

section
variable {X : Cx} {pins : List (Addr × Obj)} {σ : St} {H : Hp} {s : Shared} {a : Addr} {kvs : List (Key × V)} {k : Key} {u : Value} {A : Around} {E : Value → Shared → Prop}
end


/-! ### readings and rules -/
section
variable {X : Cx} {o i e value : Expr} {pos pos' tpos : Pos} {td ty tv : TE}
end


/-! ### displays -/
section
variable {X : Cx} {pos : Pos}
end

/-! ### methods -/
section
variable {X : Cx} {pins : List (Addr × Obj)} {σ : St} {H : Hp} {s : Shared} {a : Addr} {y d : V} {u r : Value} {o : Option V} {A : Around} {E : Value → Shared → Prop}
end

section
variable {X : Cx} {o e f : Expr} {apos cpos : Pos} {td ty tx : TE}
end

/-! ### dict(d): a copy -/
section
variable {X : Cx} {pins : List (Addr × Obj)} {σ : St} {H : Hp} {s : Shared} {a : Addr} {kvs : List (Key × V)} {A : Around} {E : Value → Shared → Prop}
end


section
variable {X : Cx} {pins : List (Addr × Obj)} {σ : St} {H : Hp} {s : Shared} {a : Addr} {y : V} {u : Value} {A : Around} {E : Value → Shared → Prop}
end
end L2

namespace L2
open PySem PySem.Spec PyProof.Rows

section
variable {prog : Program} {w : World} {A : Around} {E : Value → Shared → Prop}
end

section
variable {X : Cx}
end
end L2

namespace L2
open PySem PySem.Spec PyProof.Rows

section
variable {X : Cx} {pins : List (Addr × Obj)} {σ : St} {H : Hp} {s : Shared} {h' : Heap}
/-- several records of ours have turned -/
theorem Inv.turnedL {t' : Nat} {ch : List Addr} (I : Inv X pins σ H s) (k : ∀ b o, b ∉ ch → s.heap.get? b = some o → h'.get? b = some o) (hf : ∀ b ∈ ch, FpOk X pins H b) : Inv X pins σ H { s with heap := h', toks := t' } := by
  have nit : ∀ b u, H b = some u → b ∉ ch := fun b u e z => by
    have q := (hf b z).1
    rw [q] at e; cases e
  refine I.step (g' := s.gens) (d' := s.drawn) (ch := ch) (fun b hb => ⟨(hf b hb).2.2.2.1, (hf b hb).2.1, (hf b hb).2.2.2.2.1, (hf b hb).2.2.2.2.2⟩) (fun b o _ _ hc e _ => k b o hc e) (fun b o _ _ hc e _ => ⟨o.slots, k b o hc e⟩)
    (fun _ _ _ _ n => n) (fun b o hc e => ⟨o, k b o hc e⟩) (fun _ _ e => e) (fun _ _ _ e => e) (fun b ps e => ⟨#[], by rw [e]; simp⟩) (fun m hm => ?_) (fun b u e => ?_) I.bare
  · obtain ⟨o, es, ep, ho, r⟩ := hm
    exact ⟨o, es, ep, k _ o (fun z => (hf _ z).2.1 rfl) ho, r⟩
  · refine (I.hok b u e).stay (fun c v hc q => k c v ?_ q) (fun _ q => q) fun _ _ q => q
    rcases hc with z | z
    · rw [z]; exact nit b u e
    · exact nit c _ z
/-- .. and one new object is laid -/
theorem Inv.turnedNew {t' : Nat} {ch : List Addr} {T : Addr} {ob : HO} (I : Inv X pins σ H s) (k : ∀ b o, b ∉ ch → s.heap.get? b = some o → h'.get? b = some o) (hf : ∀ b ∈ ch, FpOk X pins H b) (hT : s.heap.objs.size ≤ T)
    (new : ObjOk X.prog X.w (upd H T ob) h' T ob) : Inv X pins σ (upd H T ob) { s with heap := h', toks := t' } := by
  have hn : H T = none := I.hok.fresh hT
  have nit : ∀ b u, H b = some u → b ∉ ch := fun b u e z => by
    have q := (hf b z).1
    rw [q] at e; cases e
  refine I.step (g' := s.gens) (d' := s.drawn) (ch := ch) (fun b hb => ⟨(hf b hb).2.2.2.1, (hf b hb).2.1, (hf b hb).2.2.2.2.1, (hf b hb).2.2.2.2.2⟩) (fun b o _ _ hc e _ => k b o hc e) (fun b o _ _ hc e _ => ⟨o.slots, k b o hc e⟩)
    (fun b o _ e n => ?_) (fun b o hc e => ⟨o, k b o hc e⟩) (fun b xs e => ?_) (fun b o u e => ?_) (fun b ps e => ⟨#[], ?_⟩) (fun m hm => ?_) (fun b u e => ?_) I.bare
  · rw [upd_ne (Nat.ne_of_lt (Nat.lt_of_lt_of_le (Heap.lt_size e) hT))]; exact n
  · rw [upd_ne (ne_of_none e hn)]; exact e
  · rw [upd_ne (ne_of_none e hn)]; exact e
  · rw [upd_ne (ne_of_none e hn), e]; simp
  · obtain ⟨o, es, ep, ho, r⟩ := hm
    exact ⟨o, es, ep, k _ o (fun z => (hf _ z).2.1 rfl) ho, r⟩
  · by_cases hb : b = T
    · subst hb
      rw [upd_same] at e
      cases e
      exact new
    · rw [upd_ne hb] at e
      refine (I.hok b u e).stay (fun c v hc q => k c v ?_ q) (fun c q => by rw [upd_ne (ne_of_none q hn)]; exact q) fun c xs q => by rw [upd_ne (ne_of_none q hn)]; exact q
      rcases hc with z | z
      · rw [z]; exact nit b u e
      · exact nit c _ z

/-! ### locking a thing while a statement runs -/
end
section
variable {X : Cx}
/-! ### one iterator just laid -/
end

/-! ### range with a step -/
/-- range(i, j, c): small bounds, n items -/
def RgC (i j c : Int) (n : Nat) : Prop := c ≠ 0 ∧ c.natAbs < 1073741824 ∧ Builtin.Range.small i j c = true ∧ Builtin.Range.rangeSize i j c = n
theorem RgC.neg {i j : Int} (ha : -(2 ^ 62) ≤ i) (ha' : i < 2 ^ 62) (hb : -(2 ^ 62) ≤ j) (hb' : j < 2 ^ 62) : RgC i j (-1) (i - j).toNat :=
  ⟨by decide, by decide, PySem.W.small_down ha ha' hb hb', PySem.W.rangeSize_downNat i j⟩
section
variable {X : Cx} {tg : Expr}
end
/-! ### reversed(list) -/
section
variable {X : Cx} {tg : Expr}
end

/-! ### a str -/
/-! ### a dict's keys: any dict's entries -/
section
variable {prog : Program} {w : World} {A : Around} {E : Value → Shared → Prop} {s : Shared}
end

/-! ### a locked dict -/
section
variable {X : Cx} {pins : List (Addr × Obj)} {σ : St} {H : Hp} {s : Shared} {d : Addr} {o : Obj}
end

section
variable {P : Program} {w : World} {K : PySem.W.Frag} {tg : Expr} {d : Addr} {o : Obj} {es : Array DictEntry} {ep : Nat}
end

/-! ### for k in d, d.keys(), d.values(), d.items() -/
section
variable {X : Cx} {tg e : Expr} {td : TE} {apos cpos : Pos}
end

/-! ### enumerate(list) -/
/-- the list at a as it stands at each turn, each item in a new pair -/
def Ite (K : PySem.W.Frag) (a : Addr) : It :=
  ⟨fun i H => ∃ (xs : List V) (x : V), SqL K H a xs ∧ xs[i]? = some x, fun i H v H' => ∃ T x, v = .ref T ∧ H T = none ∧ H' = upd H T (.tup [.int (i : Nat), x]) ∧ ∀ xs, SqL K H a xs → xs[i]? = some x, fun i H => ∃ xs : List V, SqL K H a xs ∧ xs.length ≤ i⟩
theorem turn_enum {P : Program} {w : World} {K : PySem.W.Frag} {elts : List Expr} {kk : Nat} {tpos : Pos} (a e it : Addr) :
    Turn P w K (.Tuple elts kk tpos) (Ite K a) [e, it] e (fun i h => (∃ old, IsEnum h e it ((i : Nat) : Int) old) ∧ h.IsListIter it a i ∧ e ≠ it) where
  mem := by simp
  obj := fun i h st b hb => by
    obtain ⟨⟨old, he⟩, ⟨o, ho, hc, hd⟩, _⟩ := st
    have e' : b = e ∨ b = it := by simpa using hb
    rcases e' with z | z
    · rw [z]; exact ⟨_, he, fun v q => nomatch q⟩
    · rw [z]; exact ⟨o, ho, fun v q => by rw [hd] at q; cases q⟩
  keep := fun i h h' st k => let ⟨⟨old, he⟩, hi, hne⟩ := st; ⟨⟨old, k e (by simp) _ he⟩, hi.at fun o q => k it (by simp) o q, hne⟩
  item := by
    intro X hP hw hK hc i pins s σ H E I hf st hg
    subst hP hw hK
    obtain ⟨⟨old, he⟩, hit, hne⟩ := st
    obtain ⟨xs, x, hq, hx⟩ := hg
    obtain ⟨its, rv, p, hz⟩ := I.list hq
    obtain ⟨u, hu, ru⟩ := rv.get hx
    have hel : e < s.heap.objs.size := Heap.lt_size he
    have hil : it < s.heap.objs.size := by obtain ⟨_, q, _⟩ := hit; exact Heap.lt_size q
    refine wpAny_pyNext_enum_item he hit p.isList (x := u) (by simpa using hu) hne fun h' ho hit' hT hsz hk => ?_
    refine ⟨_, rfl, wpAny_letOwnedTupleGo_enum (s := { s with heap := h', toks := s.toks + 1 }) ho fun h'' he' sb => ?_⟩
    have hT2 : h''.get? s.heap.objs.size = some { cls := .type "tuple", data := .seq #[.int i s.toks, u] } := (sb.2 _ (Nat.ne_of_gt hel)).trans hT
    have new : ObjOk X.prog X.w (upd H s.heap.objs.size (.tup [.int (i : Nat), x])) h'' s.heap.objs.size (.tup [.int (i : Nat), x]) :=
      ⟨by show 2 ≤ sizeLine; decide, [.int i s.toks, u], .cons ⟨_, rfl⟩ (.cons ru .nil), ⟨_, hT2, rfl, _, rfl⟩⟩
    have I1 : Inv X pins σ (upd H s.heap.objs.size (.tup [.int (i : Nat), x])) { s with heap := h'', toks := s.toks + 1 } :=
      I.turnedNew (ch := [e, it]) (fun b ob hb q => (sb.2 b (fun z => hb (by simp [z]))).trans (hk b ob (fun z => hb (by simp [z])) (fun z => hb (by simp [z])) q)) hf (Nat.le_refl _) new
    refine ⟨.ref s.heap.objs.size, _, I1, rfl, ⟨_, x, rfl, I.hok.fresh (Nat.le_refl _), rfl, fun ys hy => by rw [I.list_inj hy hq]; exact hx⟩, ⟨⟨u, ?_⟩, hit'.at fun o q => (sb.2 it (Ne.symm hne)).trans q, hne⟩, fun b hb => ?_⟩
    · have e1 : ((i + 1 : Nat) : Int) = (i : Int) + 1 := by omega
      rw [e1]; exact he'
    · have hb' : b < s.heap.objs.size := by
        have e' : b = e ∨ b = it := by simpa using hb
        rcases e' with z | z
        · rw [z]; exact hel
        · rw [z]; exact hil
      rw [upd_ne (Nat.ne_of_lt hb')]
      exact (hf b hb).1
  done := by
    intro X hP hw hK hc i pins s σ H E I hf st hg
    subst hP hw hK
    obtain ⟨⟨old, he⟩, hit, hne⟩ := st
    obtain ⟨xs, hq, hx⟩ := hg
    obtain ⟨its, rv, p, hz⟩ := I.list hq
    obtain ⟨f0, f1, f2, f3, f4, f5⟩ := hf it (by simp)
    have hl := rv.length
    exact wpAny_pyNext_enum_end (I.ok.hd hc) he hit p.isList (by simp; omega) fun h' eb => ⟨rfl, I.turned (t' := s.toks) (fun b o hb q => eb b o hb q) f0 f1 f3 f4 f5⟩
  self := fun A i s Q E st h => let ⟨⟨_, he⟩, _⟩ := st; wpAny_pyIter_enum he h
def iEnum (K : PySem.W.Frag) (ta : TA) : TI := fun σ H R => ta σ H fun vs H1 => ∃ a xs, vs = [.ref a] ∧ SqL K H1 a xs ∧ R (Ite K a) H1
theorem pi_enum {X : Cx} {e : Expr} {ta : TA} {p pos tpos : Pos} {elts : List Expr} {kk : Nat} (hg : Gl X "enumerate") (hm : X.mg "enumerate" = none) (ha : PA X [e] ta) (hs : starEach [e] X.env = [(false, eval e X.env)] := by rfl) :
    PI X (.Tuple elts kk tpos) (.Call (.Name "enumerate" p) [e] [] pos) (iEnum X.K ta) := by
  intro pins s σ H R I h
  refine Call_ (ld_blt I hg hm boot_enumerate (PyProof.Rows.callWith_type1 (thn (ha pos pins s σ H _ I h) fun us s1 ⟨vs, H1, I1, r1, q1⟩ => ?_) hs rfl))
  obtain ⟨a, xs, ex, hq, q⟩ := q1
  subst ex
  cases r1 with
  | cons r rr =>
    cases rr
    cases r
    obtain ⟨its, rv, p', hz⟩ := I1.list hq
    refine call_enumerate_list p'.isList fun h' he hit hsz hk => wpAny_pyIter_enum he ?_
    have I2 : Inv X pins σ H1 { s1 with heap := h' } := I1.kept (t' := s1.toks) hk
    refine ⟨s1.heap.objs.size + 1, [s1.heap.objs.size + 1, s1.heap.objs.size], _, _, H1, rfl, I2, turn_enum a (s1.heap.objs.size + 1) s1.heap.objs.size, ⟨⟨.none, he⟩, hit, Nat.succ_ne_self _⟩, fun b hb => ?_, q⟩
    have e' : b = s1.heap.objs.size + 1 ∨ b = s1.heap.objs.size := by simpa using hb
    have hle : s1.heap.objs.size ≤ b := by
      rcases e' with z | z
      · rw [z]; exact Nat.le_add_right _ _
      · rw [z]; exact Nat.le_refl _
    exact I1.fpOk hle (I1.hok.fresh hle)
/-! ### zip(list, list) -/
theorem boot_zip5 : bootBuiltins "zip" = some (.type "zip") := by decide +kernel
/-- the lists at a and b as they stand at each turn, the items in new pairs -/
def Itz (K : PySem.W.Frag) (a b : Addr) : It :=
  ⟨fun i H => ∃ (xs ys : List V) (x y : V), SqL K H a xs ∧ SqL K H b ys ∧ xs[i]? = some x ∧ ys[i]? = some y,
    fun i H v H' => ∃ T x y, v = .ref T ∧ H T = none ∧ H' = upd H T (.tup [x, y]) ∧ (∀ xs, SqL K H a xs → xs[i]? = some x) ∧ ∀ ys, SqL K H b ys → ys[i]? = some y,
    fun i H => ∃ xs ys : List V, SqL K H a xs ∧ SqL K H b ys ∧ (xs.length ≤ i ∨ ys.length ≤ i)⟩
theorem turn_zip {P : Program} {w : World} {K : PySem.W.Frag} {elts : List Expr} {kk : Nat} {tpos : Pos} {a b z TI TO i1 i2 : Addr} (D : ZipApart z TI TO i1 i2 a b) :
    Turn P w K (.Tuple elts kk tpos) (Itz K a b) [z, TI, TO, i1, i2] z (fun i h => IsZip h z TI TO .none ∧ IsPair h TI (.ref i1) (.ref i2) ∧ (∃ x y, IsPair h TO x y) ∧ h.IsListIter i1 a i ∧ h.IsListIter i2 b i) where
  mem := by simp
  obj := fun i h st c hc => by
    obtain ⟨hz, hTI, ⟨x, y, hTO⟩, ⟨o1, e1, _, d1⟩, ⟨o2, e2, _, d2⟩⟩ := st
    have e' : c = z ∨ c = TI ∨ c = TO ∨ c = i1 ∨ c = i2 := by simpa using hc
    rcases e' with q | q | q | q | q
    · rw [q]; exact ⟨_, hz, fun v q => nomatch q⟩
    · rw [q]; exact ⟨_, hTI, fun v q => nomatch q⟩
    · rw [q]; exact ⟨_, hTO, fun v q => nomatch q⟩
    · rw [q]; exact ⟨o1, e1, fun v q => by rw [d1] at q; cases q⟩
    · rw [q]; exact ⟨o2, e2, fun v q => by rw [d2] at q; cases q⟩
  keep := fun i h h' st k => by
    obtain ⟨hz, hTI, ⟨x, y, hTO⟩, h1, h2⟩ := st
    exact ⟨k z (by simp) _ hz, k TI (by simp) _ hTI, ⟨x, y, k TO (by simp) _ hTO⟩, h1.at fun o q => k i1 (by simp) o q, h2.at fun o q => k i2 (by simp) o q⟩
  item := by
    intro X hP hw hK hc i pins s σ H E I hf st hg
    subst hP hw hK
    obtain ⟨hz, hTI, ⟨x0, y0, hTO⟩, h1, h2⟩ := st
    obtain ⟨xs, ys, x, y, hqx, hqy, hx, hy⟩ := hg
    obtain ⟨its, rv, p, _⟩ := I.list hqx
    obtain ⟨its2, rv2, p2, _⟩ := I.list hqy
    obtain ⟨u, hu, ru⟩ := rv.get hx
    obtain ⟨u2, hu2, ru2⟩ := rv2.get hy
    have hzl : z < s.heap.objs.size := Heap.lt_size hz
    refine wpAny_pyNext_zip_item D hz hTI hTO h1 h2 p.isList p2.isList (x := u) (y := u2) (by simpa using hu) (by simpa using hu2) fun h' z' TO' h1' h2' hT hsz hk => ?_
    refine ⟨_, rfl, wpAny_letOwnedTupleGo_zip (s := { s with heap := h' }) z' fun h'' z'' sb => ?_⟩
    have hT2 : h''.get? s.heap.objs.size = some { cls := .type "tuple", data := .seq #[u, u2] } := (sb.2 _ (Nat.ne_of_gt hzl)).trans hT
    have new : ObjOk X.prog X.w (upd H s.heap.objs.size (.tup [x, y])) h'' s.heap.objs.size (.tup [x, y]) :=
      ⟨by show 2 ≤ sizeLine; decide, [u, u2], .cons ru (.cons ru2 .nil), ⟨_, hT2, rfl, _, rfl⟩⟩
    have I1 : Inv X pins σ (upd H s.heap.objs.size (.tup [x, y])) { s with heap := h'' } :=
      I.turnedNew (t' := s.toks) (ch := [z, TI, TO, i1, i2]) (fun c o hb q => (sb.2 c (fun q' => hb (by simp [q']))).trans (hk c o (fun q' => hb (by simp [q'])) (fun q' => hb (by simp [q'])) (fun q' => hb (by simp [q'])) (fun q' => hb (by simp [q'])) q)) hf (Nat.le_refl _) new
    refine ⟨.ref s.heap.objs.size, _, I1, rfl, ⟨_, x, y, rfl, I.hok.fresh (Nat.le_refl _), rfl, fun l hl => by rw [I.list_inj hl hqx]; exact hx, fun l hl => by rw [I.list_inj hl hqy]; exact hy⟩, ⟨z'', ?_, ⟨u, u2, ?_⟩, ?_, ?_⟩, fun c hcm => ?_⟩
    · exact (sb.2 _ D.TIz).trans (hk _ _ D.TIz D.TITO D.TIi1 D.TIi2 hTI)
    · exact (sb.2 _ D.TOz).trans TO'
    · exact h1'.at fun o q => (sb.2 _ D.i1z).trans q
    · exact h2'.at fun o q => (sb.2 _ D.i2z).trans q
    · have hlt : c < s.heap.objs.size := by
        have e' : c = z ∨ c = TI ∨ c = TO ∨ c = i1 ∨ c = i2 := by simpa using hcm
        rcases e' with q | q | q | q | q
        · rw [q]; exact hzl
        · rw [q]; exact Heap.lt_size hTI
        · rw [q]; exact Heap.lt_size hTO
        · rw [q]; obtain ⟨_, e1, _⟩ := h1; exact Heap.lt_size e1
        · rw [q]; obtain ⟨_, e2, _⟩ := h2; exact Heap.lt_size e2
      rw [upd_ne (Nat.ne_of_lt hlt)]
      exact (hf c hcm).1
  done := by
    intro X hP hw hK hc i pins s σ H E I hf st hg
    subst hP hw hK
    obtain ⟨hz, hTI, ⟨x0, y0, hTO⟩, h1, h2⟩ := st
    obtain ⟨xs, ys, hqx, hqy, hend⟩ := hg
    obtain ⟨its, rv, p, _⟩ := I.list hqx
    obtain ⟨its2, rv2, p2, _⟩ := I.list hqy
    have l1 := rv.length
    have l2 := rv2.length
    have he : its.toArray[i]? = none ∨ its2.toArray[i]? = none := by
      rcases hend with q | q
      · exact .inl (by simp; omega)
      · exact .inr (by simp; omega)
    exact wpAny_pyNext_zip_end (I.ok.hd hc) D hz hTI hTO h1 h2 p.isList p2.isList he fun h' hk => ⟨rfl, I.turnedL (t' := s.toks) (ch := [z, TI, TO, i1, i2]) (fun c o hb q =>
      hk c o (fun q' => hb (by simp [q'])) (fun q' => hb (by simp [q'])) (fun q' => hb (by simp [q'])) (fun q' => hb (by simp [q'])) q) hf⟩
  self := fun A i s Q E st h => wpAny_pyIter_zip st.1 h
def iZip (K : PySem.W.Frag) (ta : TA) : TI := fun σ H R => ta σ H fun vs H1 => ∃ a b xs ys, vs = [.ref a, .ref b] ∧ SqL K H1 a xs ∧ SqL K H1 b ys ∧ R (Itz K a b) H1
theorem pi_zip {X : Cx} {e e2 : Expr} {ta : TA} {p pos tpos : Pos} {elts : List Expr} {kk : Nat} (hg : Gl X "zip") (hm : X.mg "zip" = none) (ha : PA X [e, e2] ta)
    (hs : starEach [e, e2] X.env = (false, eval e X.env) :: starEach [e2] X.env := by rfl) (hpl : (backTo pos (starEach [e2] X.env)).any (·.1) = false := by rfl) :
    PI X (.Tuple elts kk tpos) (.Call (.Name "zip" p) [e, e2] [] pos) (iZip X.K ta) := by
  intro pins s σ H R I h
  refine Call_ (ld_blt I hg hm boot_zip5 (PyProof.Rows.callWith_type1 (thn (ha pos pins s σ H _ I h) fun us s1 ⟨vs, H1, I1, r1, q1⟩ => ?_) hs hpl))
  obtain ⟨a, b, xs, ys, ex, hqx, hqy, q⟩ := q1
  subst ex
  cases r1 with
  | cons r rr =>
    cases rr with
    | cons r' rr =>
      cases rr
      cases r
      cases r'
      obtain ⟨its, rv, p1, _⟩ := I1.list hqx
      obtain ⟨its2, rv2, p2, _⟩ := I1.list hqy
      have la : a < s1.heap.objs.size := p1.lt
      have lb : b < s1.heap.objs.size := p2.lt
      refine call_zip_2 p1.isList p2.isList fun h' hz hTI hTO h1 h2 hsz hk => wpAny_pyIter_zip hz ?_
      have I2 : Inv X pins σ H1 { s1 with heap := h' } := I1.kept (t' := s1.toks) hk
      refine ⟨s1.heap.objs.size + 4, [s1.heap.objs.size + 4, s1.heap.objs.size + 2, s1.heap.objs.size + 3, s1.heap.objs.size, s1.heap.objs.size + 1], _, _, H1, rfl, I2, turn_zip (PySem.W.ktu_apart s1.heap.objs.size a b la lb), ⟨hz, hTI, ⟨_, _, hTO⟩, h1, h2⟩, fun c hcm => ?_, q⟩
      have e' : c = s1.heap.objs.size + 4 ∨ c = s1.heap.objs.size + 2 ∨ c = s1.heap.objs.size + 3 ∨ c = s1.heap.objs.size ∨ c = s1.heap.objs.size + 1 := by simpa using hcm
      have hle : s1.heap.objs.size ≤ c := by
        rcases e' with z | z | z | z | z
        · rw [z]; exact Nat.le_add_right _ _
        · rw [z]; exact Nat.le_add_right _ _
        · rw [z]; exact Nat.le_add_right _ _
        · rw [z]; exact Nat.le_refl _
        · rw [z]; exact Nat.le_add_right _ _
      exact I1.fpOk hle (I1.hok.fresh hle)
end L2

section 
namespace Bits
open PySem PyProof.Rows

end Bits
end 

section 
namespace TL
open PySem PySem.Builtin PySem.Builtin.Str PySem.StrLaws

abbrev tl (x : Str) : List Nat := x.cps.toList
theorem len_tl (x : Str) : x.length = (tl x).length := by simp [tl, Str.length]
/-! ### the list functions -/
/-- S stands at the head of l -/
def pre (S l : List Nat) : Bool := l.take S.length == S
/-- l cut at each S from the left; k signs are still to be passed over -/
def spl (S : List Nat) : Nat → List Nat → List Nat → List (List Nat)
  | _, acc, [] => [acc]
  | 0, acc, c :: r => if pre S (c :: r) = true then acc :: spl S (S.length - 1) [] r else spl S 0 (acc ++ [c]) r
  | k + 1, acc, _ :: r => spl S k acc r
/-- what stands before the first S, and behind it -/
def par (S : List Nat) : List Nat → List Nat → Option (List Nat × List Nat)
  | _, [] => none
  | acc, c :: r => if pre S (c :: r) = true then some (acc, (c :: r).drop S.length) else par S (acc ++ [c]) r

/-! ### the model's split and partition are these -/
theorem len1 {y : Str} (hy : tl y ≠ []) : 1 ≤ y.length := by
  have e2 : 0 < (tl y).length := List.length_pos_iff.mpr hy
  rw [len_tl y]
  exact e2
/-! ### computing spl and par -/
/-! ### digits -/
/-! ### words: x.split() -/
end TL
end 

namespace L2
open PySem PySem.Spec PyProof.Rows

section
variable {X : Cx} {pins : List (Addr × Obj)} {σ : St} {H : Hp} {s : Shared} {Q : VK}
end

section
variable {X : Cx}

/-! ### of a text alone -/
/-! ### of a text and a text -/
end

section
variable {X : Cx} {o e : Expr} {to te : TE}
end
end L2

namespace L2
open PySem PySem.Spec PyProof.Rows

section
variable {X : Cx}
end

/-! ### slices of a text -/
theorem IsPart.raw {v : Value} {o : Option Int} (p : IsPart v o) : ∃ l : Option (Int × Tok), v = partValue l ∧ l.map (·.1) = o := by
  cases p with
  | none => exact ⟨none, rfl, rfl⟩
  | int i t => exact ⟨some (i, t), rfl, rfl⟩

end L2

namespace Att
open PySem PySem.W PySem.Calls PyProof.Rows

/-! ### the script -/
/-! ### the attachment: holds_open's last premise (the goal 'hc' behind k_head) from a wpAny of the law's body -/
/-! ### rules over ANY heap (no ledger) from facts about the written part K: the library's own take a ledger (News) for what they write -/
section
variable {prog : Program} {w : World} {A : Around} {E : Value → Shared → Prop} {s : Shared} {K : Frag}

/-! the whole heap as the ledger: makes every rule that writes through a ledger a rule over any heap -/
def ledger (h : Heap) (L d : Addr) : List (Addr × Obj) := (List.range h.objs.size).filterMap fun a => if a = L ∨ a = d then none else (h.get? a).map fun o => (a, o)
end
end Att

namespace L2
open PySem PySem.Spec PyProof.Rows

end L2

namespace L2
open PySem PySem.Spec PyProof.Rows

end L2

/-! SHORT WORDS over the layer: a def of the text, its body, what a loop and a test want. -/
namespace L2
open PySem PySem.Spec PyProof.Rows

/-! ### the text by places -/
/-- the j-th statement of a class's body -/
def inClass (s : Stmt) (j : Nat) : Stmt := match s with
  | .ClassDef _ _ _ body _ _ _ _ _ _ _ => body.getD j (.Pass ⟨0, 0, 0, 0⟩)
  | _ => .Pass ⟨0, 0, 0, 0⟩
def defArgs (s : Stmt) : Arguments := match s with
  | .FunctionDef _ a _ _ _ _ _ _ _ _ => a
  | _ => { posonlyargs := [], args := [], vararg := none, kwonlyargs := [], kw_defaults := [], kwarg := none, defaults := [] }
def defBody (s : Stmt) : List Stmt := match s with
  | .FunctionDef _ _ b _ _ _ _ _ _ _ => b
  | _ => []
def defScope (s : Stmt) : Scope := match s with
  | .FunctionDef _ _ _ _ _ _ sc _ _ _ => sc
  | _ => { kind := .function, names := [], isGenerator := false, isCoroutine := false }

/-! ### no exception leaves a def -/
abbrev CX0 : CXT := fun _ _ _ _ _ _ => False
abbrev E0 : XK := fun _ _ _ => False
theorem pass0 {X : Cx} : Passes CX0 X E0 := fun _ _ _ _ _ _ _ h => h.elim

/-! ### a def (or method) of the text as it stands behind the top -/
structure Fun (K : PySem.W.Frag) (x qual : Str) (st : Stmt) (f : Addr) (fd : FuncData) : Prop where
  ex : ∃ (oc : Value) (od : Option Addr) (kV doc pm : Value) (an : Option Addr) (cdv ct : Value) (osl : Array (Option Value)),
    fd = PySem.W.fnOf x qual (defArgs st) (defBody st) (defScope st) .none kV doc pm an cdv ct ∧ K.lookup f = some ⟨oc, od, .func fd, osl⟩ ∧ PySem.W.codeIn K cdv qual = true
  kp : PySem.W.keepIn K (.ref f) = true
section
variable {P : Program} {w : World} {K : PySem.W.Frag} {mg : Str → Option Value} {base : Heap}
/-- THE RULE for a def: its body as a term of rules, and the reading of that term -/
theorem Fun.ok {x qual : Str} {st : Stmt} {f : Addr} {fd : FuncData} {N ps : List Str} {k : Nat} {sp : Sp} (F : Fun K x qual st f fd) (S : FnScope N ps (defScope st)) (len : ∀ vs H Q E, sp vs H Q E → vs.length = ps.length)
    (hbody : ∀ (cdv : Value) (A : Around) (outer : List Env) (s : Shared) (H : Hp) (vs : List V) (Q : VK) (E : XK), Room k (A.deeper (envOfC qual (defScope st) s.heap.objs.size f cdv)) → sp vs H Q E →
      ∃ t, PSs (cxOf CX0 P w K mg base N qual (defScope st) f cdv A outer s H E).nox (defBody st) t ∧ t { nx := fun _ H' => Q .non H', rt := Q } (start N vs) H) : FnOk P w K mg base CX0 (k + 1) f fd ps sp := by
  obtain ⟨oc, od, kV, doc, pm, an, cdv, ct, osl, rfl, lk, hcd⟩ := F.ex
  refine fn_of lk hcd S len fun A outer s H vs Q E hr hsp => ?_
  obtain ⟨t, h, q⟩ := hbody cdv A outer s H vs Q E hr hsp
  exact ⟨t, h.nox, q⟩
/-- how its arguments bind (no defaults): h is «fun _ _ _ _ _ _ us hl => match us, hl with | [_, _], _ => rfl», one _ a parameter -/
theorem Fun.binds {x qual : Str} {st : Stmt} {f : Addr} {fd : FuncData} {ps : List Str} (F : Fun K x qual st f fd)
    (h : ∀ (kV doc pm : Value) (an : Option Addr) (cdv ct : Value) (us : List Value), us.length = ps.length → bindArgs (PySem.W.fnOf x qual (defArgs st) (defBody st) (defScope st) .none kV doc pm an cdv ct) ⟨us, []⟩ = pure (ps.zip us)) : Binds K fd ps [] := by
  obtain ⟨oc, od, kV, doc, pm, an, cdv, ct, osl, rfl, lk, hcd⟩ := F.ex
  exact .all (h kV doc pm an cdv ct)
theorem fun_mk {x qual : Str} {st : Stmt} {f : Addr} {oc : Value} {od an : Option Addr} {osl : Array (Option Value)} {kV doc pm cdv ct : Value} (l : K.lookup f = some ⟨oc, od, .func (PySem.W.fnOf x qual (defArgs st) (defBody st) (defScope st) .none kV doc pm an cdv ct), osl⟩)
    (c : PySem.W.codeIn K cdv qual = true) (k : PySem.W.keepIn K (.ref f) = true) : Fun K x qual st f (PySem.W.fnOf x qual (defArgs st) (defBody st) (defScope st) .none kV doc pm an cdv ct) := ⟨⟨oc, od, kV, doc, pm, an, cdv, ct, osl, rfl, l, c⟩, k⟩
end
/-! ### expressions in short: the name that stands in the i-th slot -/
section
variable {X : Cx}
theorem pv (i : Nat) {x : Str} {pos : Pos} (hN : X.N[i]? = some x := by rfl) (hv : Vis X.env.scope x := by first | exact Or.inl rfl | exact Or.inr (Or.inl rfl) | exact Or.inr (Or.inr rfl)) (hd : (x == ("__debug__" : Str)) = false := by decide)
    (hcd : (x == ("__classdict__" : Str)) = false := by decide) : PE X (.Name x pos) (tVar i) := pe_var hN hv hd hcd
end

/-! ### tests -/
theorem iteF {A B : Prop} (h : B) : if false = true then A else B := by
  rw [if_neg Bool.false_ne_true]
  exact h
theorem ite2 {c A B : Prop} [Decidable c] (h1 : c → A) (h2 : ¬ c → B) : if c then A else B := by
  by_cases h : c
  · rw [if_pos h]
    exact h1 h
  · rw [if_neg h]
    exact h2 h
/-! ### heaps -/
/-- all that was tracked is as it was -/
def Same (H H' : Hp) : Prop := ∀ b o, H b = some o → H' b = some o
theorem Same.refl (H : Hp) : Same H H := fun _ _ h => h
theorem Same.trans {H H1 H2 : Hp} (a : Same H H1) (b : Same H1 H2) : Same H H2 := fun c o h => b c o (a c o h)
theorem Same.free {H H' : Hp} (e : Same H H') {l : Addr} (h : H' l = Option.none) : H l = Option.none := by
  cases q : H l with
  | none => rfl
  | some o =>
    rw [e l o q] at h
    cases h
theorem Same.seq {K : PySem.W.Frag} {H H' : Hp} {a : Addr} {xs : List V} (e : Same H H') (h : SqL K H a xs) : SqL K H' a xs := by
  rcases h with (h | ⟨o, h⟩) | h
  · exact .inl (.inl (e _ _ h))
  · exact .inl (.inr ⟨o, e _ _ h⟩)
  · exact .inr h

/-! ### a dict's pairs: keys that differ -/
section
variable {κ : Type} [DecidableEq κ]
end
/-! ### lists -/
theorem at_of {xs : List V} {z : Int} {j : Nat} {v : V} (e : z = (j : Int)) (h : xs[j]? = some v) : atI xs z = some v := by
  rw [e]
  exact atI_nat h
/-- a new instance and its __init__ leave all that was tracked as it was -/
theorem Same.made {H H1 : Hp} {x dx C : Addr} (nx : H x = Option.none) (nd : H dx = Option.none) (k : ∀ b o, (upd (upd H dx (.own x)) x (.ins C dx [])) b = some o → b ≠ x → H1 b = some o) : Same H H1 := fun b o e =>
  k b o (by rw [upd_ne (ne_of_none e nx), upd_ne (ne_of_none e nd)]; exact e) (ne_of_none e nx)
end L2
end

section
section
set_option Elab.async false
set_option linter.all false
set_option maxRecDepth 100000
set_option maxHeartbeats 2000000
namespace L2
open PySem PySem.Spec PyProof.Rows
open PySem.W (WData Codec OpenSpec Well WellAll ReadsW ReadsAllW)
/-! ### an answer as data -/
mutual
/-- x stands for the datum d, lists and tuples all the way -/
inductive Dw (K : PySem.W.Frag) (H : Hp) : V → WData → Prop
  | non : Dw K H .non .none
  | bl (b : Bool) : Dw K H (.bl b) (.bool b)
  | int (i : Int) : Dw K H (.int i) (.int i)
  | str (x : Str) : Dw K H (.str x) (.str x)
  | byt (b : Array UInt8) : Dw K H (.byt b) (.bytes b.toList)
  | lst {a : Addr} {xs : List V} {ds : List WData} : SqL K H a xs → DwAll K H xs ds → Dw K H (.ref a) (.list ds)
  | tup {a : Addr} {xs : List V} {ds : List WData} : SqT K H a xs → DwAll K H xs ds → Dw K H (.ref a) (.tuple ds)
inductive DwAll (K : PySem.W.Frag) (H : Hp) : List V → List WData → Prop
  | nil : DwAll K H [] []
  | cons {v : V} {vs : List V} {d : WData} {ds : List WData} : Dw K H v d → DwAll K H vs ds → DwAll K H (v :: vs) (d :: ds)
end
theorem dw_ints {K : PySem.W.Frag} {H : Hp} : ∀ ns : List Int, DwAll K H (ns.map V.int) (ns.map WData.int)
  | [] => .nil
  | n :: r => .cons (.int n) (dw_ints r)
theorem ints_dw {K : PySem.W.Frag} {H : Hp} : ∀ (ns : List Int) (xs : List V), DwAll K H xs (ns.map WData.int) → xs = ns.map V.int
  | [], xs, h => by
    cases h
    rfl
  | n :: r, xs, h => by
    cases h with
    | cons h1 h2 =>
      cases h1
      rw [ints_dw r _ h2] <;> rfl
section
variable {P : Program} {w : World} {K : PySem.W.Frag} {H : Hp} {h : Heap} {R : PySem.W.WRecords} {cl : Str → Option Addr}
theorem sqL_at {a : Addr} {xs : List V} (hok : HOk P w H h) (KX : K.In h) (q : SqL K H a xs) : ∃ (its : List Value) (o : Obj) (n : Nat), Vals xs its ∧ h.get? a = some o ∧ o.cls = .type "list" ∧ o.data = .seq its.toArray n := by
  rcases q with q | ⟨o, its, n, e, hc, _, hd, _, hv⟩
  · obtain ⟨_, its, n, hv, e⟩ := (show ObjOk P w H h a (.lst xs) from q.ok hok)
    exact ⟨its, _, n, hv, e, rfl, rfl⟩
  · exact ⟨its.toList, o, n, hv, KX _ _ e, hc, by simp [hd]⟩
theorem sqT_at {a : Addr} {xs : List V} (hok : HOk P w H h) (KX : K.In h) (q : SqT K H a xs) : ∃ (its : List Value) (o : Obj) (n : Nat), Vals xs its ∧ h.get? a = some o ∧ o.cls = .type "tuple" ∧ o.data = .seq its.toArray n := by
  rcases q with q | ⟨o, its, n, e, hc, hd, _, hv⟩
  · obtain ⟨_, its, hv, o, e, hc, n, hd⟩ := (show ObjOk P w H h a (.tup xs) from q.ok hok)
    exact ⟨its, o, n, hv, e, hc, hd⟩
  · exact ⟨its.toList, o, n, hv, KX _ _ e, hc, by simp [hd]⟩
mutual
theorem Dw.reads (hok : HOk P w H h) (KX : K.In h) : ∀ (d : WData) (v : V) (u : Value), Dw K H v d → RelV v u → ∃ as, ReadsW R cl h u d as
  | .none, _, _, x, r => by
    cases x
    cases r
    exact ⟨_, ReadsW.none⟩
  | .bool b, _, _, x, r => by
    cases x
    cases r
    exact ⟨_, ReadsW.bool b⟩
  | .int i, _, _, x, r => by
    cases x
    obtain ⟨t, rfl⟩ := r
    exact ⟨_, ReadsW.int i t⟩
  | .str s, _, _, x, r => by
    cases x
    obtain ⟨t, rfl⟩ := r
    exact ⟨_, ReadsW.str s t⟩
  | .bytes b, _, _, x, r => by
    cases x
    obtain ⟨t, rfl⟩ := r
    exact ⟨_, ReadsW.bytes _ t⟩
  | .list ds, _, _, x, r => by
    cases x with
    | lst hs ha =>
      cases r
      obtain ⟨its, o, n, rv, ho, hc, hd⟩ := sqL_at hok KX hs
      obtain ⟨as, hr⟩ := Dw.readsAll hok KX ds _ its ha rv
      exact ⟨_, ReadsW.list ho hc hd hr⟩
  | .tuple ds, _, _, x, r => by
    cases x with
    | tup hs ha =>
      cases r
      obtain ⟨its, o, n, rv, ho, hc, hd⟩ := sqT_at hok KX hs
      obtain ⟨as, hr⟩ := Dw.readsAll hok KX ds _ its ha rv
      exact ⟨_, ReadsW.tuple ho hc hd hr⟩
  | .float _, _, _, x, _ => by cases x
  | .dict _, _, _, x, _ => by cases x
  | .bytearray _, _, _, x, _ => by cases x
  | .set _, _, _, x, _ => by cases x
  | .frozenset _, _, _, x, _ => by cases x
  | .obj _ _, _, _, x, _ => by cases x
theorem Dw.readsAll (hok : HOk P w H h) (KX : K.In h) : ∀ (ds : List WData) (vs : List V) (us : List Value), DwAll K H vs ds → Vals vs us → ∃ as, ReadsAllW R cl h us ds as
  | [], _, _, x, r => by
    cases x
    cases r
    exact ⟨_, ReadsAllW.nil⟩
  | d :: ds, _, _, x, r => by
    cases x with
    | cons h1 h2 =>
      cases r with
      | cons r1 r2 =>
        obtain ⟨as, q1⟩ := Dw.reads hok KX d _ _ h1 r1
        obtain ⟨bs, q2⟩ := Dw.readsAll hok KX ds _ _ h2 r2
        exact ⟨_, ReadsAllW.cons q1 q2⟩
end
end
/-! ### the arguments -/
mutual
/-- data that a codec tells -/
def plW : WData → Bool
  | .none => true
  | .bool _ => true
  | .int _ => true
  | .str _ => true
  | .bytes _ => true
  | .list xs => plWs xs
  | .tuple xs => plWs xs
  | _ => false
def plWs : List WData → Bool
  | [] => true
  | x :: r => plW x && plWs r
end
theorem plWs_map {α : Type} {f : α → WData} (h : ∀ a, plW (f a) = true) : ∀ l : List α, plWs (l.map f) = true
  | [] => rfl
  | x :: r => by
    show (plW (f x) && plWs (r.map f)) = true
    rw [h x, plWs_map h r] <;> rfl
theorem pl_enc : ∀ (c : Codec) (a : c.denote), plW (c.enc a) = true
  | .unit, _ => rfl
  | .bool, _ => rfl
  | .int _ _, _ => rfl
  | .nat _ _, _ => rfl
  | .u8, _ => rfl
  | .bytes _ _, _ => rfl
  | .text _ _ _ _, _ => rfl
  | .list _ _ c, a => plWs_map (fun x => pl_enc c x) a
  | .pair c d, a => by
    show (plW (c.enc a.1) && (plW (d.enc a.2) && true)) = true
    rw [pl_enc c a.1, pl_enc d a.2] <;> rfl
  | .triple c d e, a => by
    show (plW (c.enc a.1) && (plW (d.enc a.2.1) && (plW (e.enc a.2.2) && true))) = true
    rw [pl_enc c a.1, pl_enc d a.2.1, pl_enc e a.2.2] <;> rfl
  | .option c, none => rfl
  | .option c, some x => pl_enc c x
theorem pl_encAll : ∀ (cs : List Codec) (a : Codec.denoteAll cs), plWs (Codec.encAll cs a) = true
  | [], _ => rfl
  | c :: cs, a => by
    show (plW (c.enc a.1) && plWs (Codec.encAll cs a.2)) = true
    rw [pl_enc c a.1, pl_encAll cs a.2] <;> rfl
theorem weight_mem : ∀ {xs : List WData} {d : WData}, d ∈ xs → d.weight ≤ WData.weightAll xs
  | [], d, h => absurd h (by simp)
  | x :: r, d, h => by
    show d.weight ≤ x.weight + 1 + WData.weightAll r
    rcases List.mem_cons.mp h with e | m
    · rw [e]
      omega
    · have z := weight_mem m
      omega
def toV : Value → V
  | .none => .non
  | .bool b => .bl b
  | .int i _ => .int i
  | .str x _ => .str x
  | .bytes b _ => .byt b
  | .ref a => .ref a
  | _ => .non
/-- a value of the arguments, its objects among A -/
def OkU (A : List Addr) : Value → Prop
  | .none => True
  | .bool _ => True
  | .int _ _ => True
  | .str _ _ => True
  | .bytes _ _ => True
  | .ref a => a ∈ A
  | _ => False
theorem OkU.mono {A B : List Addr} (h : ∀ a ∈ A, a ∈ B) : ∀ {u : Value}, OkU A u → OkU B u := fun {u} x => by
  cases u with
  | ref a => exact h a x
  | none => trivial
  | bool b => trivial
  | int i t => trivial
  | str s t => trivial
  | bytes b t => trivial
  | _ => exact False.elim x
theorem relV_toV {A : List Addr} {u : Value} (x : OkU A u) : RelV (toV u) u := by
  cases u with
  | ref a => rfl
  | none => rfl
  | bool b => rfl
  | int i t => exact ⟨t, rfl⟩
  | str s t => exact ⟨t, rfl⟩
  | bytes b t => exact ⟨t, rfl⟩
  | _ => exact False.elim x
theorem vals_toV {A : List Addr} : ∀ {vs : List Value}, (∀ u ∈ vs, OkU A u) → Vals (vs.map toV) vs
  | [], _ => .nil
  | u :: r, h => .cons (relV_toV (h u (List.mem_cons_self ..))) (vals_toV fun x hx => h x (List.mem_cons_of_mem _ hx))
/-- an object of the arguments -/
def ArgOb (h : Heap) (A : List Addr) (a : Addr) : Prop := ∃ vs : List Value, vs.length ≤ sizeLine ∧ (∀ u ∈ vs, OkU A u) ∧
  (h.get? a = some { cls := .type "list", data := .seq vs.toArray } ∨ h.get? a = some { cls := .type "tuple", data := .seq vs.toArray })
theorem ArgOb.mono {h : Heap} {A B : List Addr} {a : Addr} (k : ∀ a ∈ A, a ∈ B) (x : ArgOb h A a) : ArgOb h B a := by
  obtain ⟨vs, h1, h2, h3⟩ := x
  exact ⟨vs, h1, fun u hu => (h2 u hu).mono k, h3⟩
theorem wellAll_len {P : Params} {h : Heap} : ∀ {vs : List Value} {ds : List WData}, WellAll P h vs ds → vs.length = ds.length
  | _, _, .nil => rfl
  | _, _, .cons _ b => by
    show _ + 1 = _ + 1
    rw [wellAll_len b]
theorem well_list {P : Params} {h : Heap} {v : Value} {ds : List WData} (x : Well P h v (.list ds)) : ∃ (a : Addr) (vs : List Value), v = .ref a ∧ h.get? a = some { cls := .type "list", data := .seq vs.toArray } ∧ WellAll P h vs ds := by
  cases x with
  | list ho hall => exact ⟨_, _, rfl, ho, hall⟩
theorem well_tuple {P : Params} {h : Heap} {v : Value} {ds : List WData} (x : Well P h v (.tuple ds)) : ∃ (a : Addr) (vs : List Value), v = .ref a ∧ h.get? a = some { cls := .type "tuple", data := .seq vs.toArray } ∧ WellAll P h vs ds := by
  cases x with
  | tuple ho hall => exact ⟨_, _, rfl, ho, hall⟩
theorem well_cons {P : Params} {h : Heap} {us : List Value} {d : WData} {ds : List WData} (x : WellAll P h us (d :: ds)) : ∃ (v : Value) (vs : List Value), us = v :: vs ∧ Well P h v d ∧ WellAll P h vs ds := by
  cases x with
  | cons a b => exact ⟨_, _, rfl, a, b⟩
theorem line_of {n : Nat} (h : n ≤ 1048576) : n ≤ sizeLine := Nat.le_trans h (by decide)
section
variable {P : Params} {h : Heap}
mutual
theorem area_one : ∀ (d : WData) (v : Value), Well P h v d → plW d = true → d.weight ≤ 1048576 → ∃ A : List Addr, OkU A v ∧ ∀ a ∈ A, ArgOb h A a
  | .none, _, x, _, _ => by
    cases x
    exact ⟨[], trivial, fun a m => absurd m (by simp)⟩
  | .bool b, _, x, _, _ => by
    cases x
    exact ⟨[], trivial, fun a m => absurd m (by simp)⟩
  | .int i, _, x, _, _ => by
    cases x
    exact ⟨[], trivial, fun a m => absurd m (by simp)⟩
  | .str s, _, x, _, _ => by
    cases x
    exact ⟨[], trivial, fun a m => absurd m (by simp)⟩
  | .bytes b, _, x, _, _ => by
    cases x
    exact ⟨[], trivial, fun a m => absurd m (by simp)⟩
  | .list ds, _, x, p, z => by
    obtain ⟨a, vs, rfl, ho, hall⟩ := well_list x
    have z2 : WData.weightAll ds ≤ 1048576 := z
    obtain ⟨A, h1, h2⟩ := area_all ds _ hall p fun d hd => Nat.le_trans (weight_mem hd) z2
    have k : ∀ b ∈ A, b ∈ a :: A := fun b hb => List.mem_cons_of_mem _ hb
    refine ⟨a :: A, List.mem_cons_self .., fun b hb => ?_⟩
    rcases List.mem_cons.mp hb with e | m
    · rw [e]
      exact ⟨vs, line_of (by rw [wellAll_len hall]; exact Nat.le_trans (PySem.W.length_le_weightAllW ds) z2), fun u hu => (h1 u hu).mono k, .inl ho⟩
    · exact (h2 b m).mono k
  | .tuple ds, _, x, p, z => by
    obtain ⟨a, vs, rfl, ho, hall⟩ := well_tuple x
    have z2 : WData.weightAll ds ≤ 1048576 := z
    obtain ⟨A, h1, h2⟩ := area_all ds _ hall p fun d hd => Nat.le_trans (weight_mem hd) z2
    have k : ∀ b ∈ A, b ∈ a :: A := fun b hb => List.mem_cons_of_mem _ hb
    refine ⟨a :: A, List.mem_cons_self .., fun b hb => ?_⟩
    rcases List.mem_cons.mp hb with e | m
    · rw [e]
      exact ⟨vs, line_of (by rw [wellAll_len hall]; exact Nat.le_trans (PySem.W.length_le_weightAllW ds) z2), fun u hu => (h1 u hu).mono k, .inr ho⟩
    · exact (h2 b m).mono k
  | .float _, _, _, p, _ => Bool.noConfusion (show false = true from p)
  | .dict _, _, _, p, _ => Bool.noConfusion (show false = true from p)
  | .bytearray _, _, _, p, _ => Bool.noConfusion (show false = true from p)
  | .set _, _, _, p, _ => Bool.noConfusion (show false = true from p)
  | .frozenset _, _, _, p, _ => Bool.noConfusion (show false = true from p)
  | .obj _ _, _, _, p, _ => Bool.noConfusion (show false = true from p)
theorem area_all : ∀ (ds : List WData) (vs : List Value), WellAll P h vs ds → plWs ds = true → (∀ d ∈ ds, d.weight ≤ 1048576) → ∃ A : List Addr, (∀ u ∈ vs, OkU A u) ∧ ∀ a ∈ A, ArgOb h A a
  | [], _, x, _, _ => by
    cases x
    exact ⟨[], fun u m => absurd m (by simp), fun a m => absurd m (by simp)⟩
  | d :: ds, _, x, p, z => by
    obtain ⟨v, vs, rfl, x1, x2⟩ := well_cons x
    have q : plW d = true ∧ plWs ds = true := Bool.and_eq_true_iff.mp p
    obtain ⟨A, a1, a2⟩ := area_one d v x1 q.1 (z d (List.mem_cons_self ..))
    obtain ⟨B, b1, b2⟩ := area_all ds vs x2 q.2 fun e he => z e (List.mem_cons_of_mem _ he)
    have kA : ∀ b ∈ A, b ∈ A ++ B := fun b hb => List.mem_append.mpr (.inl hb)
    have kB : ∀ b ∈ B, b ∈ A ++ B := fun b hb => List.mem_append.mpr (.inr hb)
    refine ⟨A ++ B, fun u hu => ?_, fun b hb => ?_⟩
    · rcases List.mem_cons.mp hu with e | m
      · rw [e]
        exact a1.mono kA
      · exact (b1 u m).mono kB
    · rcases List.mem_append.mp hb with m | m
      · exact (a2 b m).mono kA
      · exact (b2 b m).mono kB
end
end
/-- what is tracked of an argument's object -/
def hoOf (o : Obj) : Option HO := match o.data with
  | .seq vs _ => if (o.cls == Value.type "list") = true then some (.frz o (.lst (vs.toList.map toV))) else some (.frz o (.tup (vs.toList.map toV)))
  | _ => none
def argH (K : PySem.W.Frag) (h : Heap) (A : List Addr) : Hp := fun b => if b ∈ A then (if (K.lookup b).isNone = true then (h.get? b).bind hoOf else none) else none
/-- nothing is tracked but what is known to the object -/
def OnlyF (H : Hp) : Prop := ∀ b, H b = none ∨ ∃ o u, H b = some (.frz o u)
theorem hoOf_lst (vs : List Value) : hoOf { cls := .type "list", data := .seq vs.toArray } = some (.frz { cls := .type "list", data := .seq vs.toArray } (.lst (vs.map toV))) := by
  show (if (Value.type "list" == Value.type "list") = true then some (HO.frz { cls := .type "list", data := .seq vs.toArray } (.lst (vs.toArray.toList.map toV))) else some (HO.frz { cls := .type "list", data := .seq vs.toArray } (.tup (vs.toArray.toList.map toV)))) = _
  rw [if_pos (beq_self_eq_true _)]
theorem hoOf_tup (vs : List Value) : hoOf { cls := .type "tuple", data := .seq vs.toArray } = some (.frz { cls := .type "tuple", data := .seq vs.toArray } (.tup (vs.map toV))) := by
  show (if (Value.type "tuple" == Value.type "list") = true then some (HO.frz { cls := .type "tuple", data := .seq vs.toArray } (.lst (vs.toArray.toList.map toV))) else some (HO.frz { cls := .type "tuple", data := .seq vs.toArray } (.tup (vs.toArray.toList.map toV)))) = _
  rw [if_neg (by decide)]
section
variable {P : Program} {w : World} {K : PySem.W.Frag} {h : Heap} {A : List Addr}
theorem argH_at {b : Addr} {o : Obj} (hb : b ∈ A) (hk : K.lookup b = none) (e : h.get? b = some o) : argH K h A b = hoOf o := by
  unfold argH
  rw [if_pos hb, hk, if_pos (show (none : Option Obj).isNone = true from rfl), e] <;> rfl
theorem of_argH {b : Addr} {u : HO} (q : argH K h A b = some u) : b ∈ A ∧ K.lookup b = none := by
  unfold argH at q
  by_cases hb : b ∈ A
  · rw [if_pos hb] at q
    cases hk : K.lookup b with
    | none => exact ⟨hb, rfl⟩
    | some o =>
      rw [hk, if_neg (by simp)] at q
      cases q
  · rw [if_neg hb] at q
    cases q
/-- what stands tracked -/
theorem argH_is (ar : ∀ a ∈ A, ArgOb h A a) {b : Addr} {u : HO} (q : argH K h A b = some u) : K.lookup b = none ∧ ∃ vs : List Value, vs.length ≤ sizeLine ∧ (∀ u ∈ vs, OkU A u) ∧
    ((h.get? b = some { cls := .type "list", data := .seq vs.toArray } ∧ u = .frz { cls := .type "list", data := .seq vs.toArray } (.lst (vs.map toV))) ∨
     (h.get? b = some { cls := .type "tuple", data := .seq vs.toArray } ∧ u = .frz { cls := .type "tuple", data := .seq vs.toArray } (.tup (vs.map toV)))) := by
  obtain ⟨hb, hk⟩ := of_argH q
  obtain ⟨vs, h1, h2, h3⟩ := ar b hb
  refine ⟨hk, vs, h1, h2, ?_⟩
  rcases h3 with e | e
  · rw [argH_at hb hk e, hoOf_lst] at q
    exact .inl ⟨e, (Option.some.inj q).symm⟩
  · rw [argH_at hb hk e, hoOf_tup] at q
    exact .inr ⟨e, (Option.some.inj q).symm⟩
theorem argH_only (ar : ∀ a ∈ A, ArgOb h A a) : OnlyF (argH K h A) := fun b => by
  cases q : argH K h A b with
  | none => exact .inl rfl
  | some u =>
    obtain ⟨_, vs, _, _, ⟨_, e⟩ | ⟨_, e⟩⟩ := argH_is ar q
    · exact .inr ⟨_, _, by rw [e]⟩
    · exact .inr ⟨_, _, by rw [e]⟩
theorem argH_ok (ar : ∀ a ∈ A, ArgOb h A a) : HOk P w (argH K h A) h := fun b u q => by
  obtain ⟨_, vs, h1, h2, ⟨e, rfl⟩ | ⟨e, rfl⟩⟩ := argH_is ar q
  · exact ⟨e, by rw [List.length_map]; exact h1, vs, _, vals_toV h2, e⟩
  · exact ⟨e, by rw [List.length_map]; exact h1, vs, vals_toV h2, _, e, rfl, _, rfl⟩
theorem seq_inj {c c' : Value} {vs us : List Value} (e : (some { cls := c, data := .seq vs.toArray } : Option Obj) = some { cls := c', data := .seq us.toArray }) : c = c' ∧ vs = us := by
  have e1 := Option.some.inj e
  have e2 : c = c' := congrArg Obj.cls e1
  have e3 : Data.seq vs.toArray = Data.seq us.toArray := congrArg Obj.data e1
  injection e3 with e4
  refine ⟨e2, ?_⟩
  have e5 := congrArg Array.toList e4
  simpa using e5
/-- a list argument -/
theorem argL (KX : K.In h) (ar : ∀ a ∈ A, ArgOb h A a) {a : Addr} {vs : List Value} (ha : a ∈ A) (e : h.get? a = some { cls := .type "list", data := .seq vs.toArray }) : (∀ u ∈ vs, OkU A u) ∧ SqL K (argH K h A) a (vs.map toV) := by
  obtain ⟨us, h1, h2, h3⟩ := ar a ha
  have hu : us = vs := by
    rcases h3 with q | q
    · rw [e] at q
      exact (seq_inj q).2.symm
    · rw [e] at q
      exact absurd (Value.type.inj (seq_inj q).1) (by decide)
  subst hu
  refine ⟨h2, ?_⟩
  cases hk : K.lookup a with
  | none => exact .inl (.inr ⟨_, by rw [argH_at ha hk e, hoOf_lst]⟩)
  | some o =>
    have e2 := KX a o hk
    rw [e] at e2
    obtain rfl := Option.some.inj e2
    exact .inr ⟨_, us.toArray, _, hk, rfl, rfl, rfl, by rw [List.size_toArray]; exact h1, by simpa using vals_toV h2⟩
theorem argT (KX : K.In h) (ar : ∀ a ∈ A, ArgOb h A a) {a : Addr} {vs : List Value} (ha : a ∈ A) (e : h.get? a = some { cls := .type "tuple", data := .seq vs.toArray }) : (∀ u ∈ vs, OkU A u) ∧ SqT K (argH K h A) a (vs.map toV) := by
  obtain ⟨us, h1, h2, h3⟩ := ar a ha
  have hu : us = vs := by
    rcases h3 with q | q
    · rw [e] at q
      exact absurd (Value.type.inj (seq_inj q).1) (by decide)
    · rw [e] at q
      exact (seq_inj q).2.symm
  subst hu
  refine ⟨h2, ?_⟩
  cases hk : K.lookup a with
  | none => exact .inl (.inr ⟨_, by rw [argH_at ha hk e, hoOf_tup]⟩)
  | some o =>
    have e2 := KX a o hk
    rw [e] at e2
    obtain rfl := Option.some.inj e2
    exact .inr ⟨_, us.toArray, _, hk, rfl, rfl, by rw [List.size_toArray]; exact h1, by simpa using vals_toV h2⟩
mutual
theorem dw_one {Pm : Params} (KX : K.In h) (ar : ∀ a ∈ A, ArgOb h A a) : ∀ (d : WData) (v : Value), Well Pm h v d → plW d = true → OkU A v → Dw K (argH K h A) (toV v) d
  | .none, _, x, _, _ => by
    cases x
    exact .non
  | .bool b, _, x, _, _ => by
    cases x
    exact .bl b
  | .int i, _, x, _, _ => by
    cases x
    exact .int i
  | .str s, _, x, _, _ => by
    cases x
    exact .str s
  | .bytes b, _, x, _, _ => by
    cases x
    have z := Dw.byt (K := K) (H := argH K h A) b.toArray
    exact z
  | .list ds, _, x, p, hu => by
    obtain ⟨a, vs, rfl, ho, hall⟩ := well_list x
    obtain ⟨h2, hs⟩ := argL KX ar hu ho
    exact .lst hs (dw_all KX ar ds _ hall p h2)
  | .tuple ds, _, x, p, hu => by
    obtain ⟨a, vs, rfl, ho, hall⟩ := well_tuple x
    obtain ⟨h2, hs⟩ := argT KX ar hu ho
    exact .tup hs (dw_all KX ar ds _ hall p h2)
  | .float _, _, _, p, _ => Bool.noConfusion (show false = true from p)
  | .dict _, _, _, p, _ => Bool.noConfusion (show false = true from p)
  | .bytearray _, _, _, p, _ => Bool.noConfusion (show false = true from p)
  | .set _, _, _, p, _ => Bool.noConfusion (show false = true from p)
  | .frozenset _, _, _, p, _ => Bool.noConfusion (show false = true from p)
  | .obj _ _, _, _, p, _ => Bool.noConfusion (show false = true from p)
theorem dw_all {Pm : Params} (KX : K.In h) (ar : ∀ a ∈ A, ArgOb h A a) : ∀ (ds : List WData) (vs : List Value), WellAll Pm h vs ds → plWs ds = true → (∀ u ∈ vs, OkU A u) → DwAll K (argH K h A) (vs.map toV) ds
  | [], _, x, _, _ => by
    cases x
    exact .nil
  | d :: ds, _, x, p, hu => by
    obtain ⟨v, vs, rfl, x1, x2⟩ := well_cons x
    have q : plW d = true ∧ plWs ds = true := Bool.and_eq_true_iff.mp p
    exact .cons (dw_one KX ar d v x1 q.1 (hu _ (List.mem_cons_self ..))) (dw_all KX ar ds vs x2 q.2 fun u m => hu u (List.mem_cons_of_mem _ m))
end
end
/-! ### the call -/
theorem spec_call {P : Program} {w : World} {K : PySem.W.Frag} {mg mb : Str → Option Value} {CX : CXT} {k : Nat} {fa : Addr} {fd : FuncData} {ps : List Str} {sp : Sp} {s₁ : Shared} {vals : List Value} {ds : List WData} {R : PySem.W.WRecords} {cl : Str → Option Addr} {d0 : WData}
    (KX : K.In s₁.heap) (hns : s₁.heap.Ns mainGlobals mg) (hb : s₁.heap.Ns builtinsNs mb) (hbb : ∀ x : Str, x ≠ "__name__" → mb x = bootBuiltins x) (hlim : s₁.heap.NoLimit) (hg : s₁.gens = #[])
    (hwl : WellAll w.params s₁.heap vals ds) (hpl : plWs ds = true) (hwt : ∀ d ∈ ds, d.weight ≤ 1048576) (hr : Room k callerA)
    (F : ∀ base : Heap, K.In base → base.Ns mainGlobals mg → FnOk P w K mg base CX k fa fd ps sp) (hbind : ∀ (s : Shared) (us : List Value), us.length = ps.length → BindsTo s fd ⟨us, []⟩ (ps.zip us)) (hlen : ds.length = ps.length)
    (hsp : ∀ (H : Hp) (xs : List V), OnlyF H → DwAll K H xs ds → sp xs H (fun v H' => Dw K H' v d0) fun _ _ _ => False)
    (hCX : ∀ H e s', CX [] H s₁ (fun _ _ _ => False) e s' → False) :
    codeAny (model P w) callerA (.call (.ref fa) ⟨vals, []⟩) (fun r s' => ∃ u as, r = .ok (.ret u) ∧ ReadsW R cl s'.heap u d0 as ∧ OldK s₁.heap s'.heap ∧ s'.os = s₁.os ∧ AllBare s'.gens) s₁ := by
  obtain ⟨A, ho, ar⟩ := area_all ds vals hwl hpl hwt
  have hO : OnlyF (argH K s₁.heap A) := argH_only ar
  have hok : HOk P w (argH K s₁.heap A) s₁.heap := argH_ok ar
  have hS := dw_all KX ar ds vals hwl hpl ho
  have hV := vals_toV ho
  have hK : ∀ b u, argH K s₁.heap A b = some u → K.lookup b = none := fun b u q => (argH_is ar q).1
  have noA : ∀ {b : Addr} {o : Obj} {es : Array DictEntry} {ep : Nat}, s₁.heap.get? b = some o → o.data = .dict es ep → argH K s₁.heap A b = none := fun {b o es ep} e d => by
    cases q : argH K s₁.heap A b with
    | none => rfl
    | some u =>
      obtain ⟨_, vs, _, _, ⟨e2, _⟩ | ⟨e2, _⟩⟩ := argH_is ar q
      · rw [e2] at e
        cases e
        have d' : Data.seq vs.toArray _ = Data.dict es ep := d
        cases d'
      · rw [e2] at e
        cases e
        have d' : Data.seq vs.toArray _ = Data.dict es ep := d
        cases d'
  generalize argH K s₁.heap A = H at hO hok hS hK noA
  have base_of : ∀ {b : Addr} {o : Obj}, s₁.heap.get? b = some o → H b = none → (hidT s₁.heap H).get? b = some o := fun e n => hidT_get e n
  have nsK : ∀ {b : Addr} {m : Str → Option Value}, s₁.heap.Ns b m → (hidT s₁.heap H).Ns b m := fun {b m} ⟨o, es, ep, e, d, r⟩ => ⟨o, es, ep, base_of e (noA e d), d, r⟩
  have nK : ∀ b o, K.lookup b = some o → H b = none := fun b o e => by
    cases q : H b with
    | none => rfl
    | some u =>
      rw [hK b u q] at e
      cases e
  have hKb : K.In (hidT s₁.heap H) := fun b o e => base_of (KX b o e) (nK b o e)
  have hM : Mod K mg (hidT s₁.heap H) := ⟨hKb, nsK hns, ⟨mb, nsK hb, hbb⟩, let ⟨mc, h1, h2⟩ := hlim; ⟨mc, nsK h1, h2⟩⟩
  have e0 : Env0 P w K mg (hidT s₁.heap H) callerA [] s₁ H := ⟨rfl, hM, fun b o e => of_hidT e, Nat.le_of_eq (hidT_size _ _), trivial, fun b hb => absurd (show b ∈ ([] : List Addr) from hb) (by simp), hok, .of_eq hg⟩
  have hl : vals.length = ps.length := by rw [wellAll_len hwl]; exact hlen
  refine codeAny_mono ((F _ hKb (nsK hns)).run callerA [] s₁ H ⟨vals, []⟩ vals (vals.map toV) _ _ hr e0 (hbind s₁ vals hl) hV (hsp H _ hO hS)) fun r s' x => ?_
  cases r with
  | error e => exact (hCX H e s' x).elim
  | ok fl =>
    cases fl with
    | next => exact False.elim x
    | brk => exact False.elim x
    | cont => exact False.elim x
    | ret u =>
      obtain ⟨v, H', os, bare, un, hok', r', q⟩ := x
      have kept : ∀ b o, s₁.heap.get? b = some o → s'.heap.get? b = some o := fun b o e => by
        cases q2 : H b with
        | none => exact un.keep b o e q2 (by intro z; exact absurd (show b ∈ ([] : List Addr) from z) (by simp)) (by simp)
        | some u2 =>
          rcases hO b with z | ⟨ob, u3, z⟩
          · rw [q2] at z
            cases z
          · have z2 := un.frzs b ob _ z
            obtain ⟨e1, _⟩ := hok b _ z
            obtain ⟨e2, _⟩ := hok' b _ z2
            rw [e] at e1
            cases e1
            exact e2
      have KX' : K.In s'.heap := fun b o e => kept b o (KX b o e)
      obtain ⟨as, hrd⟩ := Dw.reads (R := R) (cl := cl) hok' KX' d0 v u q r'
      exact ⟨u, as, rfl, hrd, OldK.of_keep kept, os, bare⟩
/-! ### the row -/
theorem layable_weight {ds : List WData} (h : WData.layableAll ds = true) : ∀ d ∈ ds, d.weight ≤ 1048576 := fun d hd =>
  (PySem.W.layableW_iff.mp (List.all_eq_true.mp h d hd)).2.2
theorem encAll_len : ∀ (cs : List Codec) (a : Codec.denoteAll cs), (Codec.encAll cs a).length = cs.length
  | [], _ => rfl
  | c :: cs, a => by
    show (Codec.encAll cs a.2).length + 1 = cs.length + 1
    rw [encAll_len cs a.2]
/-- the goal that k_headS leaves (case hc), from the promise of the row's def: whatever the arguments that the codecs let and the row asks for, the def gives what stands for enc (f ..) -/
theorem walk_spec {r : OpenSpec} {k : Nat} {q : Program} {loose : List Str} {XP : (Str → Option Value) → Heap → Prop} {YP : World → Heap → Prop} {d : DefRec} {K : Params → PySem.W.Frag} {CX : World → CXT} {ps : List Str} {sp : World → Sp}
    (hwell : r.wellSaid = true) (hdf : d.params.defaults = []) (hlen : r.args.length = ps.length) (hr : Room k callerA)
    (hY : ∀ (w : World) (h : Heap), YP w h → (K w.params).In h)
    (F : ∀ (w : World) (mg : Str → Option Value) (fa : Addr) (h : Heap), YP w h → (K w.params).In h → h.Ns mainGlobals mg → mg d.name = some (.ref fa) →
      ∃ fd : FuncData, (∀ (s : Shared) (us : List Value), us.length = ps.length → BindsTo s fd ⟨us, []⟩ (ps.zip us)) ∧
        ∀ base : Heap, (K w.params).In base → base.Ns mainGlobals mg → FnOk r.prog w (K w.params) mg base (CX w) k fa fd ps (sp w))
    (hsp : ∀ (w : World) (H : Hp) (xs : List V) (a : Codec.denoteAll r.args), OnlyF H → Codec.withinAll r.args a = true → Codec.app r.args r.asked a = true → DwAll (K w.params) H xs (Codec.encAll r.args a) →
      sp w xs H (fun v H' => Dw (K w.params) H' v (r.ret.enc (Codec.app r.args r.f a))) fun _ _ _ => False)
    (hCX : ∀ (w : World) (H : Hp) (s : Shared) (e : Value) (s' : Shared), CX w [] H s (fun _ _ _ => False) e s' → False) :
    PySem.W.WalkOS q loose XP YP r d [] (fun f vs => PySem.call f vs) := by
  intro w s_0 s₁ mg mb G Y fa o pm cd doc dV kV ho hd hcd hD hmg hg args vals as hpre hlay hrd hwl hlo
  obtain ⟨a, e1, e2⟩ := PySem.W.os_pre_some hpre
  obtain ⟨e3, hwi⟩ := Codec.encAll_of_decAll r.args args a e1
  subst e3
  have KX := hY w _ Y
  obtain ⟨fd, hb, hF⟩ := F w mg fa _ Y KX G.T.g hmg
  refine PySem.W.enter_call (codeAny_mono (spec_call (R := []) (cl := classAt s_0.heap) (d0 := r.ret.enc (Codec.app r.args r.f a)) KX G.T.g G.T.b G.T.builtins G.T.nolimit hg hwl (pl_encAll _ _) (layable_weight hlay) hr hF hb (by rw [encAll_len]; exact hlen)
    (fun H xs hO hS => hsp w H xs a hO hwi e2 hS) fun H e s' => hCX w H s₁ e s') fun r' s' hq => ?_)
  obtain ⟨u, as', rfl, h1, h2, h3, h4⟩ := hq
  exact ⟨.inl ⟨u, _, as', rfl, fun _ => rfl, h1, (OpenSpec.post_iff hwell hwi _ _).mpr rfl, fun z => Bool.noConfusion (show false = true from z)⟩, h2, h3, h4⟩
/-- the same where the promise hangs on the written part alone -/
theorem walk_specK {r : OpenSpec} {k : Nat} {q : Program} {loose : List Str} {XP : (Str → Option Value) → Heap → Prop} {YP : World → Heap → Prop} {d : DefRec} {K : Params → PySem.W.Frag} {CX : CXT} {ps : List Str} {sp : PySem.W.Frag → Sp}
    (hwell : r.wellSaid = true) (hdf : d.params.defaults = []) (hlen : r.args.length = ps.length) (hr : Room k callerA)
    (hY : ∀ (w : World) (h : Heap), YP w h → (K w.params).In h)
    (F : ∀ (w : World) (mg : Str → Option Value) (fa : Addr) (h : Heap), YP w h → (K w.params).In h → h.Ns mainGlobals mg → mg d.name = some (.ref fa) →
      ∃ fd : FuncData, (∀ (s : Shared) (us : List Value), us.length = ps.length → BindsTo s fd ⟨us, []⟩ (ps.zip us)) ∧
        ∀ base : Heap, (K w.params).In base → base.Ns mainGlobals mg → FnOk r.prog w (K w.params) mg base CX k fa fd ps (sp (K w.params)))
    (hsp : ∀ (K : PySem.W.Frag) (H : Hp) (xs : List V) (a : Codec.denoteAll r.args), OnlyF H → Codec.withinAll r.args a = true → Codec.app r.args r.asked a = true → DwAll K H xs (Codec.encAll r.args a) →
      sp K xs H (fun v H' => Dw K H' v (r.ret.enc (Codec.app r.args r.f a))) fun _ _ _ => False)
    (hCX : ∀ (H : Hp) (s : Shared) (e : Value) (s' : Shared), CX [] H s (fun _ _ _ => False) e s' → False) :
    PySem.W.WalkOS q loose XP YP r d [] (fun f vs => PySem.call f vs) :=
  walk_spec (K := K) (CX := fun _ => CX) (sp := fun w => sp (K w.params)) hwell hdf hlen hr hY F (fun w H xs a h1 h2 h3 h4 => hsp (K w.params) H xs a h1 h2 h3 h4) fun _ H s e s' => hCX H s e s'
end L2
-- rests on (row put in by the clerk, for the bench that shows a file only what it spells): KE.SpHead KE.OsShapes
end
end

section
/-! The mathematics of the specification: sums over minutes, the most that is lacking, the first minute with too few. -/
namespace CupMath
open Kh342

theorem sum_append_nat (a b : List Nat) : (a ++ b).sum = a.sum + b.sum := by
  induction a with
  | nil => simp
  | cons x r ih => simp only [List.cons_append, List.sum_cons, ih]; omega
theorem upTo_zero (f : Nat → Nat) : upTo f 0 = f 0 := by
  simp [upTo, List.range_succ]
theorem upTo_succ (f : Nat → Nat) (t : Nat) : upTo f (t + 1) = upTo f t + f (t + 1) := by
  unfold upTo
  rw [List.range_succ (n := t + 1), List.map_append, sum_append_nat]
  simp
/-- what is before minute t -/
def before (f : Nat → Nat) (t : Nat) : Nat := ((List.range t).map f).sum
theorem before_zero (f : Nat → Nat) : before f 0 = 0 := rfl
theorem before_succ (f : Nat → Nat) (t : Nat) : before f (t + 1) = before f t + f t := by
  unfold before
  rw [List.range_succ, List.map_append, sum_append_nat]
  simp
theorem upTo_before (f : Nat → Nat) (t : Nat) : upTo f t = before f (t + 1) := rfl
theorem upTo_mono (f : Nat → Nat) {s t : Nat} (h : s ≤ t) : upTo f s ≤ upTo f t := by
  induction t with
  | zero => have : s = 0 := by omega
            subst this; exact Nat.le_refl _
  | succ t ih =>
    by_cases e : s = t + 1
    · subst e; exact Nat.le_refl _
    · have := ih (by omega)
      rw [upTo_succ]; omega
theorem upTo_congr {f g : Nat → Nat} {t : Nat} (h : ∀ s, s ≤ t → f s = g s) : upTo f t = upTo g t := by
  induction t with
  | zero => rw [upTo_zero, upTo_zero, h 0 (Nat.le_refl _)]
  | succ t ih => rw [upTo_succ, upTo_succ, ih (fun s hs => h s (by omega)), h (t + 1) (Nat.le_refl _)]
theorem upTo_add (f g : Nat → Nat) (t : Nat) : upTo (fun s => f s + g s) t = upTo f t + upTo g t := by
  induction t with
  | zero => rw [upTo_zero, upTo_zero, upTo_zero]
  | succ t ih => rw [upTo_succ, upTo_succ, upTo_succ, ih]; omega
theorem upTo_none (t : Nat) : upTo (fun _ => 0) t = 0 := by
  induction t with
  | zero => rw [upTo_zero]
  | succ t ih => rw [upTo_succ, ih]
/-- a sum over a list, minute by minute or member by member -/
theorem upTo_list {α : Type} (l : List α) (f : α → Nat → Nat) (t : Nat) : upTo (fun s => (l.map fun x => f x s).sum) t = (l.map fun x => upTo (f x) t).sum := by
  induction l with
  | nil => exact upTo_none t
  | cons x r ih =>
    simp only [List.map_cons, List.sum_cons]
    rw [upTo_add (f x) (fun s => (r.map fun x => f x s).sum) t, ih]

/-! ### the spec's running sums -/
theorem sums_eq (f : Nat → Nat) : ∀ (n t s : Nat), sums f n t s = (List.range n).map fun i => s + ((List.range (i + 1)).map fun j => f (t + j)).sum
  | 0, _, _ => rfl
  | n + 1, t, s => by
    rw [List.range_succ_eq_map, List.map_cons, List.map_map]
    show (s + f t) :: sums f n (t + 1) (s + f t) = _
    rw [sums_eq f n (t + 1) (s + f t)]
    have hd : s + f t = s + ((List.range (0 + 1)).map fun j => f (t + j)).sum := by simp [List.range_succ]
    rw [← hd]
    refine congrArg (List.cons (s + f t)) ?_
    · apply List.map_congr_left
      intro i _
      show s + f t + _ = s + _
      rw [List.range_succ_eq_map (n := i + 1), List.map_cons, List.sum_cons, List.map_map]
      have e : ((fun j => f (t + j)) ∘ Nat.succ) = fun j => f (t + 1 + j) := by
        funext j
        show f (t + (j + 1)) = f (t + 1 + j)
        congr 1
        omega
      rw [e]
      clear hd
      have e0 : f (t + 0) = f t := rfl
      rw [e0]
      omega
theorem sums_upTo (f : Nat → Nat) (d : Nat) : sums f d 0 0 = (List.range d).map (upTo f) := by
  rw [sums_eq]
  apply List.map_congr_left
  intro i _
  show 0 + _ = upTo f i
  rw [Nat.zero_add]
  unfold upTo
  congr 1
  apply List.map_congr_left
  intro j _
  rw [Nat.zero_add]
/-- what is lacking behind each minute, for any wanted and brought -/
def lacks (f g : Nat → Nat) (d : Nat) : List Nat := (List.range d).map fun t => upTo f t - upTo g t
theorem zip_lacks (f g : Nat → Nat) (d : Nat) : (((sums f d 0 0).zip (sums g d 0 0)).map fun y => y.1 - y.2) = lacks f g d := by
  rw [sums_upTo, sums_upTo, List.zip_map', List.map_map]
  rfl
theorem lackings_eq (d : Nat) (x : Table) : lackings d x = lacks x.wants x.comes d := zip_lacks _ _ d

/-! ### the most of a list -/
theorem foldl_max_ge : ∀ (l : List Nat) (a : Nat), a ≤ l.foldl max a ∧ ∀ y ∈ l, y ≤ l.foldl max a
  | [], a => ⟨Nat.le_refl _, fun _ h => nomatch h⟩
  | x :: r, a => by
    obtain ⟨h1, h2⟩ := foldl_max_ge r (max a x)
    refine ⟨Nat.le_trans (Nat.le_max_left _ _) h1, fun y hy => ?_⟩
    rcases List.mem_cons.mp hy with e | hy
    · subst e; exact Nat.le_trans (Nat.le_max_right _ _) h1
    · exact h2 y hy
theorem foldl_max_mem : ∀ (l : List Nat) (a : Nat), l.foldl max a = a ∨ l.foldl max a ∈ l
  | [], a => .inl rfl
  | x :: r, a => by
    rcases foldl_max_mem r (max a x) with e | h
    · show (r.foldl max (max a x)) = a ∨ _
      rw [e]
      by_cases h : x ≤ a
      · left; omega
      · right
        have e2 : List.foldl max a (x :: r) = x := by
          show r.foldl max (max a x) = x
          rw [e]; omega
        rw [e2]
        exact List.mem_cons_self
    · right; exact List.mem_cons_of_mem _ h
theorem foldl_max_le {l : List Nat} {m : Nat} (h : ∀ y ∈ l, y ≤ m) : l.foldl max 0 ≤ m := by
  rcases foldl_max_mem l 0 with e | e
  · rw [e]; exact Nat.zero_le _
  · exact h _ e
theorem foldl_max_eq {l : List Nat} {m : Nat} (hm : m ∈ l) (h : ∀ y ∈ l, y ≤ m) : l.foldl max 0 = m :=
  Nat.le_antisymm (foldl_max_le h) ((foldl_max_ge l 0).2 m hm)

theorem least_le {d : Nat} {x : Table} {m : Nat} : least d x ≤ m ↔ ∀ t, t < d → upTo x.wants t - upTo x.comes t ≤ m := by
  unfold least
  rw [lackings_eq]
  constructor
  · intro h t ht
    exact Nat.le_trans ((foldl_max_ge _ 0).2 _ (List.mem_map.mpr ⟨t, List.mem_range.mpr ht, rfl⟩)) h
  · intro h
    refine foldl_max_le fun y hy => ?_
    obtain ⟨t, ht, rfl⟩ := List.mem_map.mp hy
    exact h t (List.mem_range.mp ht)
theorem least_eq {d : Nat} {x : Table} {m t : Nat} (ht : t < d) (e : upTo x.wants t - upTo x.comes t = m) (h : ∀ s, s < d → upTo x.wants s - upTo x.comes s ≤ m) : least d x = m :=
  Nat.le_antisymm (least_le.mpr h) (by rw [← e]; exact least_le.mp (Nat.le_refl _) t ht)
theorem enough_iff {d : Nat} {x : Table} : enough d x = true ↔ ∀ t, t < d → upTo x.wants t ≤ x.stock + upTo x.comes t := by
  unfold enough
  rw [decide_eq_true_iff, least_le]
  exact ⟨fun h t ht => by have := h t ht; omega, fun h t ht => by have := h t ht; omega⟩

/-! ### the first minute -/
theorem firstShort_none {d : Nat} {x : Table} : firstShort d x = none ↔ least d x ≤ x.stock := by
  unfold firstShort
  rw [List.findIdx?_eq_none_iff, least_le, lackings_eq]
  constructor
  · intro h t ht
    have := h _ (List.mem_map.mpr ⟨t, List.mem_range.mpr ht, rfl⟩)
    have := of_decide_eq_false this
    omega
  · intro h y hy
    obtain ⟨t, ht, rfl⟩ := List.mem_map.mp hy
    exact decide_eq_false (by have := h t (List.mem_range.mp ht); omega)
theorem firstShort_some {d : Nat} {x : Table} {t : Nat} (ht : t < d) (h1 : x.stock + upTo x.comes t < upTo x.wants t) (h2 : ∀ s, s < t → upTo x.wants s ≤ x.stock + upTo x.comes s) : firstShort d x = some t := by
  unfold firstShort
  rw [List.findIdx?_eq_some_iff_getElem, lackings_eq]
  refine ⟨by simpa [lacks] using ht, ?_, fun j hj => ?_⟩
  · simp only [lacks, List.getElem_map, List.getElem_range]
    exact decide_eq_true (by omega)
  · simp only [lacks, List.getElem_map, List.getElem_range]
    have := h2 j hj
    intro h
    have := of_decide_eq_true h
    omega

/-! ### wanted, by the passes -/
/-- of how many minutes up to t (with it) a pass is -/
theorem overlap (f l c t : Nat) : upTo (fun s => if f ≤ s ∧ s < f + l then c else 0) t = c * min (t + 1 - f) l := by
  induction t with
  | zero =>
    rw [upTo_zero]
    by_cases h : f ≤ 0 ∧ 0 < f + l
    · rw [if_pos h]
      have : min (0 + 1 - f) l = 1 := by omega
      rw [this, Nat.mul_one]
    · rw [if_neg h]
      have : min (0 + 1 - f) l = 0 := by omega
      rw [this, Nat.mul_zero]
  | succ t ih =>
    rw [upTo_succ, ih]
    by_cases h : f ≤ t + 1 ∧ t + 1 < f + l
    · rw [if_pos h]
      have : min (t + 1 + 1 - f) l = min (t + 1 - f) l + 1 := by omega
      rw [this, Nat.mul_add, Nat.mul_one]
    · rw [if_neg h, Nat.add_zero]
      congr 1
      omega
theorem upTo_wants (x : Table) (t : Nat) : upTo x.wants t = (x.passes.map fun p => p.many * x.takes * min (t + 1 - p.at_) p.long).sum := by
  have e : x.wants = fun s => (x.passes.map fun p => (fun (p : Pass) s => if p.at_ ≤ s ∧ s < p.at_ + p.long then p.many * x.takes else 0) p s).sum := rfl
  rw [e, upTo_list]
  congr 1
  apply List.map_congr_left
  intro p _
  exact overlap _ _ _ _
/-- a delivery is there from its minute on -/
theorem arrives (m c t : Nat) : upTo (fun s => if m = s then c else 0) t = if m ≤ t then c else 0 := by
  induction t with
  | zero =>
    rw [upTo_zero]
    by_cases h : m = 0
    · rw [if_pos h, if_pos (by omega)]
    · rw [if_neg h, if_neg (by omega)]
  | succ t ih =>
    rw [upTo_succ, ih]
    by_cases h : m ≤ t
    · rw [if_pos h, if_neg (by omega), if_pos (by omega), Nat.add_zero]
    · rw [if_neg h, Nat.zero_add]
      by_cases e : m = t + 1
      · rw [if_pos e, if_pos (by omega)]
      · rw [if_neg e, if_neg (by omega)]
theorem upTo_comes (x : Table) (t : Nat) : upTo x.comes t = (x.brought.map fun b => if b.1 ≤ t then b.2 else 0).sum := by
  have e : x.comes = fun s => (x.brought.map fun b => (fun (b : Nat × Nat) s => if b.1 = s then b.2 else 0) b s).sum := rfl
  rw [e, upTo_list]
  congr 1
  apply List.map_congr_left
  intro b _
  exact arrives _ _ _

/-! ### sums over the kept ones, in whole numbers -/
theorem cast_sum : ∀ (l : List Nat), ((l.sum : Nat) : Int) = (l.map fun (n : Nat) => (n : Int)).sum
  | [] => rfl
  | x :: r => by rw [List.sum_cons, List.map_cons, List.sum_cons, ← cast_sum r]; omega
theorem sum_filter {α : Type} (p : α → Bool) (g : α → Int) : ∀ l : List α, ((l.filter p).map g).sum = (l.map fun x => if p x = true then g x else 0).sum
  | [] => rfl
  | x :: r => by
    rw [List.filter_cons, List.map_cons, List.sum_cons, ← sum_filter p g r]
    by_cases h : p x = true
    · rw [if_pos h, if_pos h, List.map_cons, List.sum_cons]
    · rw [if_neg h, if_neg h]; omega
theorem mul_sum (c : Int) : ∀ l : List Int, c * l.sum = (l.map fun x => c * x).sum
  | [] => by simp
  | x :: r => by rw [List.sum_cons, List.map_cons, List.sum_cons, ← mul_sum c r, Int.mul_add]
theorem wants_int (x : Table) (t : Nat) : ((x.wants t : Nat) : Int) = (x.takes : Int) * ((x.passes.filter fun p => decide (p.at_ ≤ t) && decide (t < p.at_ + p.long)).map fun p => (p.many : Int)).sum := by
  rw [sum_filter, mul_sum, List.map_map]
  unfold Table.wants
  rw [cast_sum, List.map_map]
  congr 1
  apply List.map_congr_left
  intro p _
  show (((if p.at_ ≤ t ∧ t < p.at_ + p.long then p.many * x.takes else 0 : Nat)) : Int) = x.takes * (if (decide (p.at_ ≤ t) && decide (t < p.at_ + p.long)) = true then (p.many : Int) else 0)
  by_cases h : p.at_ ≤ t ∧ t < p.at_ + p.long
  · rw [if_pos h, if_pos (by simp [h]), Int.natCast_mul, Int.mul_comm]
  · rw [if_neg h, if_neg (by simpa using h)]; simp
theorem upTo_wants_int (x : Table) (t : Nat) : ((upTo x.wants t : Nat) : Int) = (x.takes : Int) * (x.passes.map fun p => (p.many : Int) * ((min (t + 1 - p.at_) p.long : Nat) : Int)).sum := by
  rw [upTo_wants, cast_sum, mul_sum, List.map_map, List.map_map]
  congr 1
  apply List.map_congr_left
  intro p _
  show ((p.many * x.takes * min (t + 1 - p.at_) p.long : Nat) : Int) = x.takes * (p.many * ((min (t + 1 - p.at_) p.long : Nat) : Int))
  rw [Int.natCast_mul, Int.natCast_mul, ← Int.mul_assoc, Int.mul_comm (p.many : Int) (x.takes : Int)]
theorem upTo_comes_int (x : Table) (t : Nat) : ((upTo x.comes t : Nat) : Int) = ((x.brought.filter fun b => decide (b.1 ≤ t)).map fun b => (b.2 : Int)).sum := by
  rw [upTo_comes, cast_sum, sum_filter, List.map_map]
  congr 1
  apply List.map_congr_left
  intro b _
  show (((if b.1 ≤ t then b.2 else 0 : Nat)) : Int) = if decide (b.1 ≤ t) = true then (b.2 : Int) else 0
  by_cases h : b.1 ≤ t
  · rw [if_pos h, if_pos (decide_eq_true h)]
  · rw [if_neg h, if_neg (by simpa using h)]; rfl

/-! ### together -/
theorem together_le {a : Abs} {m : Nat} : together a ≤ m ↔ ∀ t, t < a.day → (a.tables.map fun x => upTo x.wants t).sum - (a.tables.map fun x => upTo x.comes t).sum ≤ m := by
  have e1 : ∀ t, upTo (wantsAll a) t = (a.tables.map fun x => upTo x.wants t).sum := fun t => upTo_list a.tables (fun x s => x.wants s) t
  have e2 : ∀ t, upTo (comesAll a) t = (a.tables.map fun x => upTo x.comes t).sum := fun t => upTo_list a.tables (fun x s => x.comes s) t
  unfold together
  rw [zip_lacks]
  constructor
  · intro h t ht
    rw [← e1, ← e2]
    exact Nat.le_trans ((foldl_max_ge _ 0).2 _ (List.mem_map.mpr ⟨t, List.mem_range.mpr ht, rfl⟩)) h
  · intro h
    refine foldl_max_le fun y hy => ?_
    obtain ⟨t, ht, rfl⟩ := List.mem_map.mp hy
    show upTo (wantsAll a) t - upTo (comesAll a) t ≤ m
    rw [e1, e2]
    exact h t (List.mem_range.mp ht)

/-! ### latest: one more delivery -/
theorem wants_with (x : Table) (t n : Nat) : (withDelivery x t n).wants = x.wants := rfl
theorem comes_with (x : Table) (t n s : Nat) : upTo (withDelivery x t n).comes s = upTo x.comes s + if t ≤ s then n else 0 := by
  rw [upTo_comes, upTo_comes]
  show ((x.brought ++ [(t, n)]).map fun b => if b.1 ≤ s then b.2 else 0).sum = _
  rw [List.map_append, sum_append_nat]
  simp
theorem enough_with {d : Nat} {x : Table} {t n : Nat} : enough d (withDelivery x t n) = true ↔ ∀ s, s < d → upTo x.wants s ≤ x.stock + upTo x.comes s + if t ≤ s then n else 0 := by
  rw [enough_iff]
  constructor
  · intro h s hs
    have := h s hs
    rw [comes_with] at this
    have e : upTo (withDelivery x t n).wants s = upTo x.wants s := rfl
    have e2 : (withDelivery x t n).stock = x.stock := rfl
    omega
  · intro h s hs
    have := h s hs
    rw [comes_with]
    have e : upTo (withDelivery x t n).wants s = upTo x.wants s := rfl
    have e2 : (withDelivery x t n).stock = x.stock := rfl
    omega
/-- the earlier, the better -/
theorem enough_earlier {d : Nat} {x : Table} {t t' n : Nat} (h : enough d (withDelivery x t n) = true) (ht : t' ≤ t) : enough d (withDelivery x t' n) = true := by
  rw [enough_with] at h ⊢
  intro s hs
  have := h s hs
  by_cases e : t ≤ s
  · rw [if_pos (by omega)]; rw [if_pos e] at this; exact this
  · rw [if_neg e] at this; omega
theorem getLast_filter (p : Nat → Bool) : ∀ (d t : Nat), t < d → p t = true → (∀ s, t < s → s < d → p s = false) → ((List.range d).filter p).getLast? = some t
  | 0, t, h, _, _ => by omega
  | d + 1, t, h, ht, hs => by
    rw [List.range_succ, List.filter_append]
    by_cases q : t = d
    · subst q
      have e : ([t].filter p) = [t] := by simp [ht]
      rw [e, List.getLast?_append]; rfl
    · have e : ([d].filter p) = [] := by simp [hs d (by omega) (by omega)]
      rw [e, List.append_nil]
      exact getLast_filter p d t (by omega) ht fun s h1 h2 => hs s h1 (by omega)
theorem latest_some {d : Nat} {x : Table} {n t : Nat} (ht : t < d) (h : enough d (withDelivery x t n) = true) (h2 : ∀ s, t < s → s < d → enough d (withDelivery x s n) = false) : latest d x n = some t :=
  getLast_filter _ d t ht h h2
theorem latest_none {d : Nat} {x : Table} {n : Nat} (h : ∀ s, s < d → enough d (withDelivery x s n) = false) : latest d x n = none := by
  unfold latest
  have e : ((List.range d).filter fun t => enough d (withDelivery x t n)) = [] := List.filter_eq_nil_iff.mpr fun t ht => by
    rw [h t (List.mem_range.mp ht)]; decide
  rw [e]; rfl

/-! ### what each call does, one equation each -/
theorem do_begin (s : Option Abs) (d : Nat) : doing s (.begin_ d) = if d < 1 ∨ 400 < d then (s, say (-22)) else (some (begun d), say 0) := by cases s <;> rfl
theorem do_none {c : Call} (h : ∀ d, c ≠ .begin_ d) : doing none c = (none, say (-61)) := by
  cases c <;> first | rfl | exact absurd rfl (h _)
theorem do_table (a : Abs) (x n : Nat) : doing (some a) (.table x n) = if x < 1 ∨ 9 < x ∨ MOST < n then (some a, say (-22)) else if TABLES ≤ a.tables.length then (some a, say (-28)) else (some { a with tables := a.tables ++ [⟨x, n, [], []⟩] }, say a.tables.length) := rfl
/-- the calls on a table -/
def onTable : Call → Option Nat
  | .pass k _ _ _ => some k
  | .bring k _ _ => some k
  | .take k => some k
  | .stock k _ => some k
  | .wants k _ => some k
  | .there k _ => some k
  | .least k => some k
  | .short k => some k
  | .latest k _ => some k
  | .fewest k _ => some k
  | .look k => some k
  | _ => none
theorem do_noTable {a : Abs} {c : Call} {k : Nat} (hc : onTable c = some k) (h : a.tables[k]? = none) : doing (some a) c = (some a, say (-2)) := by
  cases c <;> first | (cases hc; simp only [doing, h]) | (exact absurd hc (by intro z; cases z))
section
variable {a : Abs} {k : Nat} {x : Table} (h : a.tables[k]? = some x)
include h
theorem do_pass (f l n : Nat) : doing (some a) (.pass k f l n) = if l < 1 ∨ a.day < f + l ∨ n < 1 ∨ 1000 < n then (some a, say (-22)) else if PASSES ≤ x.passes.length then (some a, say (-28)) else (some { a with tables := a.tables.set k { x with passes := x.passes ++ [⟨f, l, n⟩] } }, say (x.passes.length + 1 : Nat)) := by simp only [doing, h]
theorem do_bring (t n : Nat) : doing (some a) (.bring k t n) = if a.day ≤ t ∨ n < 1 ∨ MOST < n then (some a, say (-22)) else if BROUGHT ≤ x.brought.length then (some a, say (-28)) else (some { a with tables := a.tables.set k (withDelivery x t n) }, say (x.brought.length + 1 : Nat)) := by simp only [doing, h]
theorem do_take : doing (some a) (.take k) = if x.brought = [] then (some a, say (-6)) else (some { a with tables := a.tables.set k { x with brought := x.brought.dropLast } }, say ((x.brought.getLast?.map fun b => b.2).getD 0)) := by simp only [doing, h]
theorem do_stock (n : Nat) : doing (some a) (.stock k n) = if MOST < n then (some a, say (-22)) else (some { a with tables := a.tables.set k { x with stock := n } }, say x.stock) := by simp only [doing, h]
theorem do_wants (t : Nat) : doing (some a) (.wants k t) = if a.day ≤ t then (some a, say (-22)) else (some a, ⟨(x.wants t : Nat), [((upTo x.wants t : Nat) : Int)]⟩) := by simp only [doing, h]
theorem do_there (t : Nat) : doing (some a) (.there k t) = if a.day ≤ t then (some a, say (-22)) else (some a, ⟨0, [((x.stock + upTo x.comes t : Nat) : Int) - (upTo x.wants t : Nat)]⟩) := by simp only [doing, h]
theorem do_least : doing (some a) (.least k) = (some a, say (least a.day x : Nat)) := by simp only [doing, h]
theorem do_short_no (q : least a.day x ≤ x.stock) : doing (some a) (.short k) = (some a, say (-6)) := by simp only [doing, h, firstShort_none.mpr q]
theorem do_short {t : Nat} (q : firstShort a.day x = some t) : doing (some a) (.short k) = (some a, ⟨t, nums [least a.day x - x.stock]⟩) := by simp only [doing, h, q]
theorem do_latest_bad {n : Nat} (q : n < 1 ∨ MOST < n) : doing (some a) (.latest k n) = (some a, say (-22)) := by simp only [doing, h, if_pos q]
theorem do_latest_none {n : Nat} (q : ¬ (n < 1 ∨ MOST < n)) (e : latest a.day x n = none) : doing (some a) (.latest k n) = (some a, say (-33)) := by simp only [doing, h, if_neg q, e]
theorem do_latest {n t : Nat} (q : ¬ (n < 1 ∨ MOST < n)) (e : latest a.day x n = some t) : doing (some a) (.latest k n) = (some a, say t) := by simp only [doing, h, if_neg q, e]
theorem do_fewest (c : Nat) : doing (some a) (.fewest k c) = if MOST < c ∨ c < x.stock then (some a, say (-22)) else if canFill a.day x c = false then (some a, say (-33)) else (some a, ⟨((fills x c a.day 0 x.stock).length : Nat), nums (fills x c a.day 0 x.stock)⟩) := by simp only [doing, h]
theorem do_look : doing (some a) (.look k) = (some a, ⟨x.stock, nums (x.takes :: x.passes.length :: x.brought.flatMap fun b => [b.1, b.2])⟩) := by simp only [doing, h]
end
theorem do_enough (a : Abs) : doing (some a) .enough = (some a, ⟨((a.tables.filter fun x => !enough a.day x).length : Nat), nums (a.tables.zipIdx.filterMap fun x => if enough a.day x.1 then none else some x.2)⟩) := rfl
theorem do_apart (a : Abs) : doing (some a) .apart = (some a, ⟨(apart a : Nat), nums (a.tables.map (least a.day))⟩) := rfl
theorem do_together (a : Abs) : doing (some a) .together = (some a, ⟨(together a : Nat), nums [(a.tables.map Table.stock).sum]⟩) := rfl
theorem do_steps (a : Abs) : doing (some a) .steps = if (a.tables.map Table.stock).sum ≠ apart a then (some a, say (-33)) else (some a, ⟨(steps a : Nat), gaps a⟩) := rfl
theorem do_level (a : Abs) : doing (some a) .level = if (a.tables.map Table.stock).sum ≠ apart a then (some a, say (-33)) else (some { a with tables := a.tables.map fun x => { x with stock := least a.day x } }, say (steps a : Nat)) := rfl
theorem do_sums (a : Abs) : doing (some a) .sums = (some a, ⟨a.day, nums [a.tables.length, (a.tables.map Table.stock).sum, (a.tables.map fun x => (x.brought.map fun b => b.2).sum).sum, (a.tables.map fun x => upTo x.wants (a.day - 1)).sum]⟩) := rfl
end CupMath
end

section
/-! The mathematics of the later calls: filling up, the latest minute, gaps, sums over tables. -/
namespace CupMath
open Kh342
theorem snoc_take {α : Type} {l : List α} {i : Nat} {x : α} (h : l[i]? = some x) : l.take (i + 1) = l.take i ++ [x] := by
  rw [List.take_add_one, h]
  rfl
/-! ### the most that is wanted in a minute -/
def mostN (d : Nat) (x : Table) : Nat := ((List.range d).map x.wants).foldl max 0
theorem mostN_eq {d t : Nat} {x : Table} (ht : t < d) (h : ∀ s, s < d → x.wants s ≤ x.wants t) : mostN d x = x.wants t :=
  foldl_max_eq (List.mem_map.mpr ⟨t, List.mem_range.mpr ht, rfl⟩) fun y hy => by
    obtain ⟨s, hs, rfl⟩ := List.mem_map.mp hy
    exact h s (List.mem_range.mp hs)
theorem canFill_iff {d c : Nat} {x : Table} : canFill d x c = true ↔ ∀ t, t < d → x.wants t ≤ c := by
  unfold canFill
  rw [List.all_eq_true]
  exact ⟨fun h t ht => of_decide_eq_true (h t (List.mem_range.mpr ht)), fun h t ht => decide_eq_true (h t (List.mem_range.mp ht))⟩
theorem canFill_most {d c : Nat} {x : Table} : canFill d x c = true ↔ mostN d x ≤ c := by
  rw [canFill_iff]
  constructor
  · intro h
    refine foldl_max_le fun y hy => ?_
    obtain ⟨s, hs, rfl⟩ := List.mem_map.mp hy
    exact h s (List.mem_range.mp hs)
  · intro h t ht
    exact Nat.le_trans ((foldl_max_ge _ 0).2 _ (List.mem_map.mpr ⟨t, List.mem_range.mpr ht, rfl⟩)) h
/-! ### filling up -/
theorem fills_yes {x : Table} {cap n t s : Nat} (h : x.wants t ≤ s) : fills x cap (n + 1) t s = fills x cap n (t + 1) (s - x.wants t) := by
  show (if x.wants t ≤ s then _ else _) = _
  rw [if_pos h]
theorem fills_no {x : Table} {cap n t s : Nat} (h : s < x.wants t) : fills x cap (n + 1) t s = t :: fills x cap n (t + 1) (cap - x.wants t) := by
  show (if x.wants t ≤ s then _ else _) = _
  rw [if_neg (by omega)]
theorem fills_zero (x : Table) (cap t s : Nat) : fills x cap 0 t s = [] := rfl
/-! ### the latest minute -/
theorem firstShort_spec {d t : Nat} {x : Table} (h : firstShort d x = some t) : t < d ∧ x.stock + upTo x.comes t < upTo x.wants t ∧ ∀ s, s < t → upTo x.wants s ≤ x.stock + upTo x.comes s := by
  unfold firstShort at h
  rw [List.findIdx?_eq_some_iff_getElem, lackings_eq] at h
  obtain ⟨h1, h2, h3⟩ := h
  have hl : (lacks x.wants x.comes d).length = d := by simp [lacks]
  have e : ∀ s (q : s < (lacks x.wants x.comes d).length), (lacks x.wants x.comes d)[s] = upTo x.wants s - upTo x.comes s := fun s q => by simp [lacks]
  refine ⟨by omega, ?_, fun s hs => ?_⟩
  · have h2 := of_decide_eq_true h2
    rw [e] at h2
    omega
  · have h3 := h3 s hs
    rw [e] at h3
    apply Classical.byContradiction
    intro z
    exact h3 (decide_eq_true (by omega))
theorem latest_free {d n : Nat} {x : Table} (hd : 1 ≤ d) (h : least d x ≤ x.stock) : latest d x n = some (d - 1) := by
  refine latest_some (by omega) (enough_with.mpr fun s hs => ?_) fun s h1 h2 => by omega
  have := least_le.mp h s hs
  omega
theorem latest_at {d n t : Nat} {x : Table} (h : firstShort d x = some t) (hn : least d x ≤ x.stock + n) : latest d x n = some t := by
  obtain ⟨h1, h2, h3⟩ := firstShort_spec h
  refine latest_some h1 (enough_with.mpr fun s hs => ?_) fun s q1 q2 => ?_
  · by_cases e : t ≤ s
    · rw [if_pos e]
      have := least_le.mp hn s hs
      omega
    · have := h3 s (by omega)
      omega
  · cases e : enough d (withDelivery x s n) with
    | false => rfl
    | true =>
      have := enough_with.mp e t h1
      rw [if_neg (by omega)] at this
      omega
theorem latest_no {d n : Nat} {x : Table} (hn : x.stock + n < least d x) : latest d x n = none := by
  refine latest_none fun s hs => ?_
  cases e : enough d (withDelivery x s n) with
  | false => rfl
  | true =>
    have q : least d x ≤ x.stock + n := least_le.mpr fun t ht => by
      have := enough_with.mp e t ht
      split at this <;> omega
    omega
/-! ### the tables where there aren't enough -/
def tooFew (a : Abs) (i : Nat) : List Nat := (a.tables.take i).zipIdx.filterMap fun x => if enough a.day x.1 then none else some x.2
theorem tooFew_yes {a : Abs} {i : Nat} {x : Table} (h : a.tables[i]? = some x) (q : x.stock < least a.day x) : tooFew a (i + 1) = tooFew a i ++ [i] := by
  have hi : i < a.tables.length := (List.getElem?_eq_some_iff.mp h).1
  have hl : (a.tables.take i).length = i := by rw [List.length_take]; omega
  have e : enough a.day x = false := decide_eq_false (by omega)
  unfold tooFew
  rw [snoc_take h, List.zipIdx_append, List.filterMap_append, hl]
  simp [e]
theorem tooFew_no {a : Abs} {i : Nat} {x : Table} (h : a.tables[i]? = some x) (q : least a.day x ≤ x.stock) : tooFew a (i + 1) = tooFew a i := by
  have hi : i < a.tables.length := (List.getElem?_eq_some_iff.mp h).1
  have hl : (a.tables.take i).length = i := by rw [List.length_take]; omega
  have e : enough a.day x = true := decide_eq_true q
  unfold tooFew
  rw [snoc_take h, List.zipIdx_append, List.filterMap_append, hl]
  simp [e]
theorem tooFew_len (a : Abs) (i : Nat) : (tooFew a i).length ≤ i := by
  unfold tooFew
  refine Nat.le_trans (List.length_filterMap_le _ _) ?_
  rw [List.length_zipIdx, List.length_take]
  omega
theorem len_few (d : Nat) : ∀ (l : List Table) (k : Nat), ((l.zipIdx k).filterMap fun x => if enough d x.1 then none else some x.2).length = (l.filter fun x => !enough d x).length
  | [], _ => rfl
  | x :: r, k => by
    have ih := len_few d r (k + 1)
    rw [List.zipIdx_cons, List.filter_cons]
    by_cases e : enough d x = true
    · simp only [List.filterMap_cons, e, if_true, Bool.not_true]
      exact ih
    · have e : enough d x = false := by simpa using e
      simp only [List.filterMap_cons, e, Bool.false_eq_true, if_false, Bool.not_false, if_true, List.length_cons]
      rw [ih]
theorem do_enough' (a : Abs) : doing (some a) .enough = (some a, ⟨((tooFew a a.tables.length).length : Nat), nums (tooFew a a.tables.length)⟩) := by
  have e : tooFew a a.tables.length = a.tables.zipIdx.filterMap fun x => if enough a.day x.1 then none else some x.2 := by
    unfold tooFew
    rw [List.take_length]
  rw [do_enough, e, len_few a.day a.tables 0]
/-! ### gaps -/
def gapTo (a : Abs) (i : Nat) : Int := ((a.tables.take i).map fun x => (x.stock : Int) - least a.day x).sum
theorem isum_snoc (l : List Int) (z : Int) : (l ++ [z]).sum = l.sum + z := by
  induction l with
  | nil => simp
  | cons a r ih => rw [List.cons_append, List.sum_cons, List.sum_cons, ih]; omega
theorem gapTo_succ {a : Abs} {i : Nat} {x : Table} (h : a.tables[i]? = some x) : gapTo a (i + 1) = gapTo a i + ((x.stock : Int) - least a.day x) := by
  unfold gapTo
  rw [snoc_take h, List.map_append, List.map_cons, List.map_nil, isum_snoc]
def gapsTo (a : Abs) (i : Nat) : List Int := (List.range i).map fun k => gapTo a (k + 1)
theorem gapsTo_succ (a : Abs) (i : Nat) : gapsTo a (i + 1) = gapsTo a i ++ [gapTo a (i + 1)] := by
  unfold gapsTo
  rw [List.range_succ, List.map_append]
  rfl
theorem gapsTo_len (a : Abs) (i : Nat) : (gapsTo a i).length = i := by simp [gapsTo]
theorem gaps_eq (a : Abs) : gaps a = gapsTo a (a.tables.length - 1) := rfl
theorem gaps_take (a : Abs) : (gapsTo a a.tables.length).take (a.tables.length - 1) = gaps a := by
  rw [gaps_eq]
  cases h : a.tables.length with
  | zero => rfl
  | succ n =>
    rw [gapsTo_succ, Nat.add_sub_cancel]
    have := gapsTo_len a n
    rw [List.take_append_of_le_length (by omega), List.take_of_length_le (by omega)]
theorem gaps_len (a : Abs) : (gaps a).length = a.tables.length - 1 := by rw [gaps_eq, gapsTo_len]
def absI (i : Int) : Int := if i < 0 then -i else i
theorem abs_sum : ∀ l : List Int, (l.map absI).sum = (((l.map Int.natAbs).sum : Nat) : Int)
  | [] => rfl
  | x :: r => by
    rw [List.map_cons, List.map_cons, List.sum_cons, List.sum_cons, abs_sum r]
    unfold absI
    split <;> omega
/-! ### sums over the tables -/
def sumTo (f : Table → Int) (a : Abs) (i : Nat) : List Int := (a.tables.take i).map f
theorem sumTo_succ {f : Table → Int} {a : Abs} {i : Nat} {x : Table} (h : a.tables[i]? = some x) : sumTo f a (i + 1) = sumTo f a i ++ [f x] := by
  unfold sumTo
  rw [snoc_take h, List.map_append]
  rfl
theorem sumTo_len (f : Table → Int) (a : Abs) (i : Nat) : (sumTo f a i).length ≤ a.tables.length := by
  unfold sumTo
  rw [List.length_map, List.length_take]
  omega
theorem sumTo_all (f : Table → Int) (a : Abs) : sumTo f a a.tables.length = a.tables.map f := by
  unfold sumTo
  rw [List.take_length]
theorem cast_map (f : Table → Nat) (l : List Table) : (l.map fun x => (f x : Int)).sum = (((l.map f).sum : Nat) : Int) := by
  rw [cast_sum, List.map_map]
  rfl
theorem comes_all {x : Table} {d : Nat} (hd : 1 ≤ d) (h : ∀ b ∈ x.brought, b.1 < d) : upTo x.comes (d - 1) = (x.brought.map fun b => b.2).sum := by
  rw [upTo_comes]
  congr 1
  apply List.map_congr_left
  intro b hb
  have := h b hb
  exact if_pos (by omega)
theorem together_eq {a : Abs} {t m : Nat} (ht : t < a.day) (e : (a.tables.map fun x => upTo x.wants t).sum - (a.tables.map fun x => upTo x.comes t).sum = m) (h : ∀ s, s < a.day → (a.tables.map fun x => upTo x.wants s).sum - (a.tables.map fun x => upTo x.comes s).sum ≤ m) : together a = m :=
  Nat.le_antisymm (together_le.mpr h) (by rw [← e]; exact together_le.mp (Nat.le_refl _) t ht)
/-! ### level -/
def lev (d : Nat) (x : Table) : Table := { x with stock := least d x }
def levTo (a : Abs) (i : Nat) : List Table := (a.tables.take i).map (lev a.day) ++ a.tables.drop i
theorem levTo_zero (a : Abs) : levTo a 0 = a.tables := rfl
theorem levTo_all (a : Abs) : levTo a a.tables.length = a.tables.map fun x => { x with stock := least a.day x } := by
  unfold levTo
  rw [List.take_length, List.drop_length, List.append_nil]
  rfl
theorem levTo_at {a : Abs} {i : Nat} {x : Table} (h : a.tables[i]? = some x) : (levTo a i)[i]? = some x ∧ levTo a (i + 1) = (levTo a i).set i (lev a.day x) := by
  have hi : i < a.tables.length := (List.getElem?_eq_some_iff.mp h).1
  have hl : ((a.tables.take i).map (lev a.day)).length = i := by rw [List.length_map, List.length_take]; omega
  have hd : a.tables.drop i = x :: a.tables.drop (i + 1) := by
    rw [List.drop_eq_getElem_cons hi, (List.getElem?_eq_some_iff.mp h).2]
  unfold levTo
  constructor
  · rw [List.getElem?_append_right (by omega), hl, hd, Nat.sub_self]
    rfl
  · rw [snoc_take h, List.map_append, hd, List.append_assoc, List.set_append_right _ _ (by omega), hl, Nat.sub_self]
    rfl
/-! ### look -/
def seenTo (x : Table) (i : Nat) : List Nat := x.stock :: x.takes :: x.passes.length :: (x.brought.take i).flatMap fun b => [b.1, b.2]
theorem seenTo_succ {x : Table} {i : Nat} {b : Nat × Nat} (h : x.brought[i]? = some b) : seenTo x (i + 1) = seenTo x i ++ [b.1] ++ [b.2] := by
  unfold seenTo
  rw [snoc_take h, List.flatMap_append]
  simp
theorem seenTo_len (x : Table) (i : Nat) : (seenTo x i).length ≤ 3 + 2 * x.brought.length := by
  have : ∀ l : List (Nat × Nat), (l.flatMap fun b => [b.1, b.2]).length = 2 * l.length := fun l => by
    induction l with
    | nil => rfl
    | cons b r ih => rw [List.flatMap_cons, List.length_append, ih]; simp; omega
  unfold seenTo
  simp only [List.length_cons, this, List.length_take]
  omega
end CupMath
end

section
/-! The flat list of numbers, call by call. -/
namespace CupFlat
open Kh342 PyKh342
/-- a call's number and the numbers behind it -/
def encC : Call → Nat × List Nat
  | .begin_ d => (0, [d])
  | .table x n => (1, [x, n])
  | .pass k f l n => (2, [k, f, l, n])
  | .bring k t n => (3, [k, t, n])
  | .take k => (4, [k])
  | .stock k n => (5, [k, n])
  | .wants k t => (6, [k, t])
  | .there k t => (7, [k, t])
  | .least k => (8, [k])
  | .short k => (9, [k])
  | .enough => (10, [])
  | .apart => (11, [])
  | .together => (12, [])
  | .latest k n => (13, [k, n])
  | .fewest k c => (14, [k, c])
  | .steps => (15, [])
  | .level => (16, [])
  | .look k => (17, [k])
  | .sums => (18, [])
def widths : List Int := [1, 2, 4, 3, 1, 2, 2, 2, 1, 1, 0, 0, 0, 2, 2, 0, 0, 1, 0]
def asInts (l : List Nat) : List Int := l.map fun n : Nat => (n : Int)
theorem enc_width (c : Call) : widths[(encC c).1]? = some ((encC c).2.length : Int) := by cases c <;> rfl
theorem len1 {α : Type} {l : List α} (h : l.length = 1) : ∃ a, l = [a] := by
  match l, h with
  | [a], _ => exact ⟨a, rfl⟩
theorem len2 {α : Type} {l : List α} (h : l.length = 2) : ∃ a b, l = [a, b] := by
  match l, h with
  | [a, b], _ => exact ⟨a, b, rfl⟩
theorem len3 {α : Type} {l : List α} (h : l.length = 3) : ∃ a b c, l = [a, b, c] := by
  match l, h with
  | [a, b, c], _ => exact ⟨a, b, c, rfl⟩
theorem len4 {α : Type} {l : List α} (h : l.length = 4) : ∃ a b c d, l = [a, b, c, d] := by
  match l, h with
  | [a, b, c, d], _ => exact ⟨a, b, c, d, rfl⟩
theorem nn {z : Int} {l : List Int} (h : ∀ y ∈ l, 0 ≤ y) (m : z ∈ l) : ((z.toNat : Nat) : Int) = z := Int.toNat_of_nonneg (h z m)
/-- a call of the shape is one of the document's, by its number and its numbers -/
theorem call_of {p : Int} {args : List Int} {n k : Nat} (hs : shape p = some (n, k)) (hl : args.length = n) (hn : ∀ y ∈ args, 0 ≤ y) :
    k = 0 ∧ ∃ c : Call, Kh342Neutral.callOf1 (whole [p :: args]) = c ∧ p = ((encC c).1 : Int) ∧ args = asInts (encC c).2 := by
  unfold shape at hs
  by_cases h : p = 0
  · subst h; cases hs; obtain ⟨a, rfl⟩ := len1 hl
    exact ⟨rfl, .begin_ a.toNat, rfl, rfl, by simp [encC, asInts, nn hn]⟩
  rw [if_neg h] at hs; clear h
  by_cases h : p = 1
  · subst h; cases hs; obtain ⟨a, b, rfl⟩ := len2 hl
    exact ⟨rfl, .table a.toNat b.toNat, rfl, rfl, by simp [encC, asInts, nn hn]⟩
  rw [if_neg h] at hs; clear h
  by_cases h : p = 2
  · subst h; cases hs; obtain ⟨a, b, c, d, rfl⟩ := len4 hl
    exact ⟨rfl, .pass a.toNat b.toNat c.toNat d.toNat, rfl, rfl, by simp [encC, asInts, nn hn]⟩
  rw [if_neg h] at hs; clear h
  by_cases h : p = 3
  · subst h; cases hs; obtain ⟨a, b, c, rfl⟩ := len3 hl
    exact ⟨rfl, .bring a.toNat b.toNat c.toNat, rfl, rfl, by simp [encC, asInts, nn hn]⟩
  rw [if_neg h] at hs; clear h
  by_cases h : p = 4
  · subst h; cases hs; obtain ⟨a, rfl⟩ := len1 hl
    exact ⟨rfl, .take a.toNat, rfl, rfl, by simp [encC, asInts, nn hn]⟩
  rw [if_neg h] at hs; clear h
  by_cases h : p = 5
  · subst h; cases hs; obtain ⟨a, b, rfl⟩ := len2 hl
    exact ⟨rfl, .stock a.toNat b.toNat, rfl, rfl, by simp [encC, asInts, nn hn]⟩
  rw [if_neg h] at hs; clear h
  by_cases h : p = 6
  · subst h; cases hs; obtain ⟨a, b, rfl⟩ := len2 hl
    exact ⟨rfl, .wants a.toNat b.toNat, rfl, rfl, by simp [encC, asInts, nn hn]⟩
  rw [if_neg h] at hs; clear h
  by_cases h : p = 7
  · subst h; cases hs; obtain ⟨a, b, rfl⟩ := len2 hl
    exact ⟨rfl, .there a.toNat b.toNat, rfl, rfl, by simp [encC, asInts, nn hn]⟩
  rw [if_neg h] at hs; clear h
  by_cases h : p = 8
  · subst h; cases hs; obtain ⟨a, rfl⟩ := len1 hl
    exact ⟨rfl, .least a.toNat, rfl, rfl, by simp [encC, asInts, nn hn]⟩
  rw [if_neg h] at hs; clear h
  by_cases h : p = 9
  · subst h; cases hs; obtain ⟨a, rfl⟩ := len1 hl
    exact ⟨rfl, .short a.toNat, rfl, rfl, by simp [encC, asInts, nn hn]⟩
  rw [if_neg h] at hs; clear h
  by_cases h : p = 10
  · subst h; cases hs; cases List.eq_nil_of_length_eq_zero hl
    exact ⟨rfl, .enough, rfl, rfl, rfl⟩
  rw [if_neg h] at hs; clear h
  by_cases h : p = 11
  · subst h; cases hs; cases List.eq_nil_of_length_eq_zero hl
    exact ⟨rfl, .apart, rfl, rfl, rfl⟩
  rw [if_neg h] at hs; clear h
  by_cases h : p = 12
  · subst h; cases hs; cases List.eq_nil_of_length_eq_zero hl
    exact ⟨rfl, .together, rfl, rfl, rfl⟩
  rw [if_neg h] at hs; clear h
  by_cases h : p = 13
  · subst h; cases hs; obtain ⟨a, b, rfl⟩ := len2 hl
    exact ⟨rfl, .latest a.toNat b.toNat, rfl, rfl, by simp [encC, asInts, nn hn]⟩
  rw [if_neg h] at hs; clear h
  by_cases h : p = 14
  · subst h; cases hs; obtain ⟨a, b, rfl⟩ := len2 hl
    exact ⟨rfl, .fewest a.toNat b.toNat, rfl, rfl, by simp [encC, asInts, nn hn]⟩
  rw [if_neg h] at hs; clear h
  by_cases h : p = 15
  · subst h; cases hs; cases List.eq_nil_of_length_eq_zero hl
    exact ⟨rfl, .steps, rfl, rfl, rfl⟩
  rw [if_neg h] at hs; clear h
  by_cases h : p = 16
  · subst h; cases hs; cases List.eq_nil_of_length_eq_zero hl
    exact ⟨rfl, .level, rfl, rfl, rfl⟩
  rw [if_neg h] at hs; clear h
  by_cases h : p = 17
  · subst h; cases hs; obtain ⟨a, rfl⟩ := len1 hl
    exact ⟨rfl, .look a.toNat, rfl, rfl, by simp [encC, asInts, nn hn]⟩
  rw [if_neg h] at hs; clear h
  by_cases h : p = 18
  · subst h; cases hs; cases List.eq_nil_of_length_eq_zero hl
    exact ⟨rfl, .sums, rfl, rfl, rfl⟩
  rw [if_neg h] at hs; cases hs
/-- one call is read off the list -/
theorem calls_cons {f : Nat} {p : Int} {r : List Int} {cs : List (List (List Int))} (h : PyFlat.calls shape f (p :: r) = some cs) (hn : ∀ y ∈ p :: r, 0 ≤ y) :
    ∃ (f' : Nat) (c : Call) (cs' : List (List (List Int))), p = ((encC c).1 : Int) ∧ r.take (encC c).2.length = asInts (encC c).2 ∧ (encC c).2.length ≤ r.length ∧ PyFlat.calls shape f' (r.drop (encC c).2.length) = some cs' ∧
      ∀ s : Kh342Neutral.S, PyFlat.played Kh342Neutral.step s (cs.map whole) = ((doing s c).2.ret :: (doing s c).2.out) :: PyFlat.played Kh342Neutral.step (doing s c).1 (cs'.map whole) := by
  cases f with
  | zero => cases h
  | succ f =>
    unfold PyFlat.calls at h
    cases hc : PyFlat.call shape (p :: r) with
    | none => rw [hc] at h; cases h
    | some ct =>
      obtain ⟨c0, t⟩ := ct
      rw [hc] at h
      cases hcs : PyFlat.calls shape f t with
      | none => simp only [hcs] at h; cases h
      | some cs' =>
        simp only [hcs] at h
        have h := Option.some.inj h
        unfold PyFlat.call at hc
        cases hsh : shape p with
        | none => simp only [hsh] at hc; cases hc
        | some nk =>
          obtain ⟨n, k⟩ := nk
          simp only [hsh] at hc
          by_cases hl : r.length < n
          · rw [if_pos hl] at hc; cases hc
          · rw [if_neg hl] at hc
            have hlen : (r.take n).length = n := by rw [List.length_take]; omega
            obtain ⟨hk, c, e1, e2, e3⟩ := call_of hsh hlen fun y hy => hn y (List.mem_cons_of_mem _ (List.mem_of_mem_take hy))
            subst hk
            have hc : some ((p :: r.take n) :: [], r.drop n) = some (c0, t) := hc
            have hc := Option.some.inj hc
            have e4 : c0 = [p :: r.take n] := (congrArg Prod.fst hc).symm
            have e5 : t = r.drop n := (congrArg Prod.snd hc).symm
            have e6 : (encC c).2.length = n := by
              rw [← hlen, e3]; simp [asInts]
            refine ⟨f, c, cs', e2, by rw [e6]; exact e3, by omega, by rw [e6, ← e5]; exact hcs, fun s => ?_⟩
            rw [← h, List.map_cons]
            show (Kh342Neutral.step s (whole c0)).2 :: PyFlat.played Kh342Neutral.step (Kh342Neutral.step s (whole c0)).1 _ = _
            unfold Kh342Neutral.step
            rw [e4, e1]
/-- what is asked of a list -/
theorem asked_of {l : List Int} (h : answers_asked l = true) : ∃ cs, PyFlat.calls shape l.length l = some cs ∧ answers l = PyFlat.told (PyFlat.played Kh342Neutral.step none (cs.map whole)) ∧ (answers l).length ≤ 10000000 := by
  unfold answers_asked at h
  cases hc : PyFlat.calls shape l.length l with
  | none => rw [hc] at h; cases h
  | some raw =>
    rw [hc] at h
    simp only [Bool.and_eq_true] at h
    refine ⟨raw, rfl, ?_, of_decide_eq_true h.2⟩
    unfold answers PyKh342.calls
    rw [hc]
    rfl
theorem told_cons (a : List Int) (r : List (List Int)) : PyFlat.told (a :: r) = (a.length : Int) :: a ++ PyFlat.told r := by
  unfold PyFlat.told
  rw [List.flatMap_cons]
end CupFlat
end

section
set_option Elab.async false
set_option linter.all false
set_option maxRecDepth 100000
set_option maxHeartbeats 4000000
/-! The program's text by places, what stands behind its top, the objects of a day and its tables. -/
namespace Cup
open PySem PySem.Spec PyProof.Rows L2
def top (i : Nat) : Stmt := PySem.Challenge.pw_cupsalong_s01_answers.main.body.getD i (.Pass ⟨0, 0, 0, 0⟩)
abbrev s_Day_init : Stmt := inClass (top 1) 0
abbrev s_Day_all_stock : Stmt := inClass (top 1) 1
abbrev s_Day_all_wanted_up_to : Stmt := inClass (top 1) 2
abbrev s_Day_all_brought_up_to : Stmt := inClass (top 1) 3
abbrev s_Day_leasts : Stmt := inClass (top 1) 4
abbrev s_Day_all_lacking_behind : Stmt := inClass (top 1) 5
abbrev s_Day_least_together : Stmt := inClass (top 1) 6
abbrev s_Day_tables_too_short : Stmt := inClass (top 1) 7
abbrev s_Day_can_be_level : Stmt := inClass (top 1) 8
abbrev s_Day_over_gaps : Stmt := inClass (top 1) 9
abbrev s_Day_make_level : Stmt := inClass (top 1) 10
abbrev s_Table_init : Stmt := inClass (top 16) 0
abbrev s_Table_wanted_in : Stmt := inClass (top 16) 1
abbrev s_Table_wanted_up_to : Stmt := inClass (top 16) 2
abbrev s_Table_brought_up_to : Stmt := inClass (top 16) 3
abbrev s_Table_there_behind : Stmt := inClass (top 16) 4
abbrev s_Table_lacking_behind : Stmt := inClass (top 16) 5
abbrev s_Table_least_needed : Stmt := inClass (top 16) 6
abbrev s_Table_first_too_few : Stmt := inClass (top 16) 7
abbrev s_Table_most_wanted : Stmt := inClass (top 16) 8
abbrev s_Table_filled_up : Stmt := inClass (top 16) 9
abbrev s_begin : Stmt := top 18
abbrev s_add_table : Stmt := top 19
abbrev s_add_pass : Stmt := top 20
abbrev s_bring : Stmt := top 21
abbrev s_take : Stmt := top 22
abbrev s_set_stock : Stmt := top 23
abbrev s_wants : Stmt := top 24
abbrev s_there : Stmt := top 25
abbrev s_least : Stmt := top 26
abbrev s_short : Stmt := top 27
abbrev s_enough : Stmt := top 28
abbrev s_apart : Stmt := top 29
abbrev s_together : Stmt := top 30
abbrev s_latest : Stmt := top 31
abbrev s_fewest : Stmt := top 32
abbrev s_steps_over : Stmt := top 33
abbrev s_steps : Stmt := top 34
abbrev s_level : Stmt := top 35
abbrev s_look : Stmt := top 36
abbrev s_sums : Stmt := top 37
abbrev s_answer_at_table : Stmt := top 42
abbrev s_answer : Stmt := top 43
abbrev s_answers : Stmt := top 44
/-! ### rules for the module's own ints, lists, dicts; a call of a value -/
section
variable {X : Cx}
theorem pe_gint {x : Str} {i : Int} {pos : Pos} (hg : Gl X x) (h : ∃ t, X.mg x = some (.int i t)) (hd : (x == ("__debug__" : Str)) = false := by decide) : PE X (.Name x pos) (tC (.int i)) := by
  obtain ⟨t, h⟩ := h
  exact pe_glob hg h ⟨t, rfl⟩ hd
theorem pe_gref {x : Str} {a : Addr} {pos : Pos} (hg : Gl X x) (h : X.mg x = some (.ref a)) (hd : (x == ("__debug__" : Str)) = false := by decide) : PE X (.Name x pos) (tC (.ref a)) := pe_glob hg h rfl hd
/-- len of a list or a tuple, as its rule reads it -/
abbrev rLenK (K : PySem.W.Frag) : List V → Hp → VK → Prop := fun xs H Q => ∃ p ys, xs = [.ref p] ∧ (SqL K H p ys ∨ SqT K H p ys) ∧ Q (.int ys.length) H
/-- f(e, ..) where f is an expression whose value is a def of the text -/
def tVCall (X : Cx) (tf : TE) (t : TA) : TE := fun σ H Q => tf σ H fun x H1 => ∃ (k : Nat) (f : Addr) (fd : FuncData) (ps : List Str) (sp : Sp), x = .ref f ∧ FnOk X.prog X.w X.K X.mg X.base CX0 k f fd ps sp ∧ Room k X.A ∧ PySem.W.keepIn X.K (.ref f) = true ∧ Binds X.K fd ps [] ∧
  t σ H1 fun vs H2 => sp vs H2 Q E0
theorem pe_vcall {fe e : Expr} {es : List Expr} {pos : Pos} {tf : TE} {t : TA} (hf : PE X fe tf) (ha : PA X (e :: es) t)
    (hc : eval (.Call fe (e :: es) [] pos) X.env = (do callWith pos (← eval fe X.env) [] (backTo pos (starEach (e :: es) X.env)) (backToKw pos (keywordEach [] X.env))) := by rfl)
    (he : starEach (e :: es) X.env = (false, eval e X.env) :: starEach es X.env := by rfl) (hpl : (backTo pos (starEach es X.env)).any (·.1) = false := by rfl) :
    PE X (.Call fe (e :: es) [] pos) (tVCall X tf t) := by
  intro pins s σ H Q I h
  refine Call_ (thn (hf pins s σ H _ I h) fun u s1 ⟨x, H1, I1, rx, k, f, fd, ps, sp, ex, F, hr, hk, hb, q⟩ => ?_) hc
  subst ex
  obtain rfl : u = Value.ref f := rx
  refine PySem.W.callWith_K (h₀ := X.base) I.ok.mod.kin hk (thn (ha pos pins s1 σ H1 _ I1 q) fun us s2 ⟨vs, H2, I2, r, q2⟩ => ⟨I2.kIn, ?_⟩) he hpl
  exact run_fn (dvs := []) (ds := []) F hr hb .nil pass0 I2 r (by rw [List.append_nil]; exact q2)
/-- the entries of a dict of the module: ints to defs -/
def entB : List DictEntry → List (Int × Addr) → Bool
  | [], [] => true
  | e :: es, kf :: kfs => (match e.key with | .int i _ => decide (i = kf.1) | _ => false) && decide (e.hash = hashInt kf.1) && (match e.val with | .ref a => decide (a = kf.2) | _ => false) && entB es kfs
  | _, _ => false
def dictB (o : Obj) (kfs : List (Int × Addr)) : Bool :=
  (match o.cls with | .type n => decide (n = "dict") | _ => false) && o.dict.isNone && decide (o.slots.size = 0) && (match o.data with | .dict es _ => entB es.toList kfs | _ => false)
structure MDict (K : PySem.W.Frag) (a : Addr) (kfs : List (Int × Addr)) : Prop where
  at_ : ∃ o, K.lookup a = some o ∧ dictB o kfs = true
  no : (a == sysModules) = false
  nd : (kfs.map (·.1)).Nodup
theorem entB_cons {e : DictEntry} {es : List DictEntry} {kf : Int × Addr} {kfs : List (Int × Addr)} (h : entB (e :: es) (kf :: kfs) = true) :
    (∃ t, e.key = .int kf.1 t) ∧ e.hash = hashInt kf.1 ∧ e.val = .ref kf.2 ∧ entB es kfs = true := by
  unfold entB at h
  rw [Bool.and_eq_true, Bool.and_eq_true, Bool.and_eq_true] at h
  obtain ⟨⟨⟨h1, h2⟩, h3⟩, h4⟩ := h
  refine ⟨?_, of_decide_eq_true h2, ?_, h4⟩
  · split at h1
    · rename_i i t e1
      have := of_decide_eq_true h1
      subst this
      exact ⟨t, e1⟩
    · cases h1
  · split at h3
    · rename_i a e1
      have := of_decide_eq_true h3
      subst this
      exact e1
    · cases h3
theorem entB_pairs {P : Program} {w : World} : ∀ {es : List DictEntry} {kfs : List (Int × Addr)}, entB es kfs = true →
    (∀ e ∈ es, ∃ k, (mixKind P w).is k e.key = true ∧ e.hash = (mixKind P w).hash k) ∧ Pairs (mixKind P w) es (kfs.map fun kf => ((Sum.inl kf.1 : Key), Value.ref kf.2))
  | [], [], _ => ⟨fun _ h => (List.not_mem_nil h).elim, .nil⟩
  | [], _ :: _, h => by simp [entB] at h
  | _ :: _, [], h => by simp [entB] at h
  | e :: es, kf :: kfs, h => by
    obtain ⟨⟨t, h1⟩, h2, h3, h4⟩ := entB_cons h
    obtain ⟨q1, q2⟩ := entB_pairs (P := P) (w := w) h4
    have z : (mixKind P w).is (Sum.inl kf.1) e.key = true := by rw [h1]; exact keyIs_int _ t
    refine ⟨fun e' he => ?_, .cons z h3 q2⟩
    rcases List.mem_cons.mp he with rfl | he
    · exact ⟨Sum.inl kf.1, z, h2⟩
    · exact q1 e' he
theorem MDict.dictOf {pins : List (Addr × Obj)} {σ : L2.St} {H : Hp} {s : Shared} {a : Addr} {kfs : List (Int × Addr)} (m : MDict X.K a kfs) (I : Inv X pins σ H s) : s.heap.DictOf (mixKind X.prog X.w) a (kfs.map fun kf => ((Sum.inl kf.1 : Key), Value.ref kf.2)) := by
  obtain ⟨o, ho, hb⟩ := m.at_
  have hg := I.kIn a o ho
  unfold dictB at hb
  rw [Bool.and_eq_true, Bool.and_eq_true, Bool.and_eq_true] at hb
  obtain ⟨⟨⟨b1, b2⟩, b3⟩, b4⟩ := hb
  have c1 : o.cls = .type "dict" := by
    split at b1
    · rename_i n e1
      have := of_decide_eq_true b1
      subst this
      exact e1
    · cases b1
  have c3 : o.slots = #[] := Array.eq_empty_of_size_eq_zero (of_decide_eq_true b3)
  split at b4
  · rename_i es ep e1
    obtain ⟨q1, q2⟩ := entB_pairs (P := X.prog) (w := X.w) b4
    refine ⟨o, es, ep, hg, ⟨c1, Option.isNone_iff_eq_none.mp b2, c3⟩, e1, fun e he => q1 e (Array.mem_toList_iff.mpr he), q2, ?_⟩
    rw [List.map_map]
    have : ((fun kv : Key × Value => kv.1) ∘ fun kf : Int × Addr => ((Sum.inl kf.1 : Key), Value.ref kf.2)) = (fun z => (Sum.inl z : Key)) ∘ (·.1) := rfl
    rw [this, ← List.map_map]
    exact List.Pairwise.map _ (fun _ _ h z => h (Sum.inl.inj z)) m.nd
  · cases b4
def findF (kfs : List (Int × Addr)) (k : Int) : Option Addr := (kfs.find? fun kf => decide (kf.1 = k)).map (·.2)
theorem valueAt_find (k : Int) : ∀ kfs : List (Int × Addr), valueAt (kfs.map fun kf => ((Sum.inl kf.1 : Key), Value.ref kf.2)) (Sum.inl k) = (findF kfs k).map Value.ref
  | [] => rfl
  | kf :: kfs => by
    have ih := valueAt_find k kfs
    unfold valueAt findF at ih ⊢
    rw [List.map_cons, List.find?_cons, List.find?_cons]
    by_cases h : kf.1 = k
    · simp [h]
    · have h' : ¬ (Sum.inl kf.1 : Key) = Sum.inl k := fun z => h (Sum.inl.inj z)
      simp only [h, h', decide_false]
      exact ih
/-- d[k] of the module's dict; k in d -/
def rIxM (K : PySem.W.Frag) : R2 := fun x y H Q => ∃ p kfs k f, x = .ref p ∧ y = .int k ∧ MDict K p kfs ∧ findF kfs k = some f ∧ Q (.ref f) H
theorem ix_mdict : IxR X (rIxM X.K) := by
  intro value slice pins s σ H x y v u Q I rx ry h hs
  obtain ⟨p, kfs, k, f, rfl, rfl, m, hf, q⟩ := h
  cases rx
  obtain ⟨t, rfl⟩ := ry
  have dd := m.dictOf I
  have hv : valueAt (kfs.map fun kf => ((Sum.inl kf.1 : Key), Value.ref kf.2)) (Sum.inl k) = some (Value.ref f) := by rw [valueAt_find, hf]; rfl
  exact subscriptTail_builtinR (x := Value.ref f) dd.typeIs slot_dict_getitem.lookup
    (wpAny_getItem_of (Q := fun r s' => r = Value.ref f ∧ EP X pins σ Q r s') (keyIs_int k t) dd.mapOf hv ⟨rfl, ⟨.ref f, H, I.tok _, rfl, q⟩⟩) hs
def tMIn (K : PySem.W.Frag) (ta tb : TE) : TE := fun σ H Q => ta σ H fun x H1 => tb σ H1 fun y H2 => ∃ p kfs k, y = .ref p ∧ x = .int k ∧ MDict K p kfs ∧ Q (.bl (findF kfs k).isSome) H2
theorem pc_min {a b : Expr} {ta tb : TE} (ha : PE X a ta) (hb : PE X b tb) : PC X .In a b (tMIn X.K ta tb) := by
  intro pins s σ H Q I h
  refine thn (ha pins s σ H _ I h) fun v s1 ⟨x, H1, I1, r1, q1⟩ => thn (hb pins s1 σ H1 _ I1 q1) fun u s2 ⟨y, H2, I2, r2, p, kfs, k, e1, e2, m, q⟩ => ?_
  subst e1 e2
  cases r2
  obtain ⟨t, rfl⟩ := r1
  refine wpAny_in_of (knd := mixKind X.prog X.w) (k := Sum.inl k) (keyIs_int k t) m.no (m.dictOf I2).mapOf ?_
  rw [valueAt_find, Option.isSome_map]
  exact ⟨.bl _, H2, I2.tok _, rfl, q⟩
end
/-- over two lists of one length that the body leaves as they are -/
theorem for_zip {K : PySem.W.Frag} {a b : Addr} {xs ys : List V} {g : TG} {tb : TS} {D : Ends} {σ : L2.St} {H : Hp} (hxy : xs.length = ys.length) (Pv : Nat → L2.St → Hp → Prop) (h0 : Pv 0 σ H) (hl : ∀ i σ H, i ≤ xs.length → Pv i σ H → SqL K H a xs ∧ SqL K H b ys)
    (hs : ∀ i x y T σ H, xs[i]? = some x → ys[i]? = some y → H T = none → Pv i σ H → g (.ref T) σ (upd H T (.tup [x, y])) fun σ2 H2 => tb { D with nx := Pv (i + 1), ct := Pv (i + 1), bk := D.nx } σ2 H2) (hd : ∀ σ H, Pv xs.length σ H → D.nx σ H) :
    ∃ W : Nat → Nat → L2.St → Hp → Prop, (∃ m, W 0 m σ H) ∧ ∀ i m σ H, W i m σ H →
      ((Itz K a b).stop i H ∧ D.nx σ H) ∨ ((Itz K a b).go i H ∧ ∃ N : L2.St → Hp → Prop, (∀ σ' H', N σ' H' → ∃ m', m' < m ∧ W (i + 1) m' σ' H') ∧ ∀ x H', (Itz K a b).yld i H x H' → g x σ H' fun σ2 H2 => tb { D with nx := N, ct := N, bk := D.nx } σ2 H2) := by
  refine ⟨fun i m σ H => m = xs.length - i ∧ i ≤ xs.length ∧ Pv i σ H, ⟨xs.length, by simp, Nat.zero_le _, h0⟩, ?_⟩
  rintro i m σ H ⟨rfl, hi, p⟩
  obtain ⟨q1, q2⟩ := hl i σ H hi p
  by_cases hlt : i < xs.length
  · refine .inr ⟨⟨xs, ys, xs[i], ys[i]'(by omega), q1, q2, by simp [hlt], by simp [show i < ys.length by omega]⟩, Pv (i + 1), fun σ' H' p' => ⟨xs.length - (i + 1), by omega, rfl, hlt, p'⟩, fun v H' y => ?_⟩
    obtain ⟨T, x0, y0, e1, e2, e3, y1, y2⟩ := y
    subst e1 e3
    exact hs i x0 y0 T σ H (y1 xs q1) (y2 ys q2) e2 p
  · have e : i = xs.length := by omega
    subst e
    exact .inl ⟨⟨xs, ys, q1, q2, .inl (Nat.le_refl _)⟩, hd σ H p⟩
/-- [.. for i, x in enumerate(l)]: a list that the block leaves as it is -/
theorem lc_enum {K : PySem.W.Frag} {a : Addr} {xs : List V} {g : TG} {tt : TT} {te : TE} {vs : List Nat} {σ : L2.St} {H1 : Hp} {D : Addr} {Qd : Hp → Prop} (Pv : Nat → Hp → Prop) (h0 : Pv 0 (upd H1 D (.lst []))) (hl : ∀ i H, i ≤ xs.length → Pv i H → SqL K H a xs)
    (hs : ∀ i x T H, xs[i]? = some x → H T = none → Pv i H → g (.ref T) (wipe σ vs) (upd H T (.tup [.int (i : Nat), x])) fun σ2 H2 => wipe σ2 vs = wipe σ vs ∧ tt σ2 H2 fun b H3 =>
      if b = true then te σ2 H3 fun y H4 => ∃ acc, H4 D = some (.lst acc) ∧ acc.length < sizeLine ∧ Pv (i + 1) (upd H4 D (.lst (acc ++ [y]))) else Pv (i + 1) H3) (hd : ∀ H, Pv xs.length H → Qd H) :
    ∃ W : Nat → Nat → Hp → Prop, (∃ m, W 0 m (upd H1 D (.lst []))) ∧ ∀ i m H, W i m H →
      ((Ite K a).stop i H ∧ Qd H) ∨ ((Ite K a).go i H ∧ ∃ Nx : Hp → Prop, (∀ H', Nx H' → ∃ m', m' < m ∧ W (i + 1) m' H') ∧ ∀ x H', (Ite K a).yld i H x H' → g x (wipe σ vs) H' fun σ2 H2 => wipe σ2 vs = wipe σ vs ∧ tt σ2 H2 fun b H3 =>
        if b = true then te σ2 H3 fun y H4 => ∃ acc, H4 D = some (.lst acc) ∧ acc.length < sizeLine ∧ Nx (upd H4 D (.lst (acc ++ [y]))) else Nx H3) := by
  refine ⟨fun i m H => m = xs.length - i ∧ i ≤ xs.length ∧ Pv i H, ⟨xs.length, by simp, Nat.zero_le _, h0⟩, ?_⟩
  rintro i m H ⟨rfl, hi, p⟩
  have q := hl i H hi p
  by_cases hlt : i < xs.length
  · refine .inr ⟨⟨xs, xs[i], q, by simp [hlt]⟩, Pv (i + 1), fun H' p' => ⟨xs.length - (i + 1), by omega, rfl, hlt, p'⟩, fun v H' y => ?_⟩
    obtain ⟨T, x0, e1, e2, e3, y1⟩ := y
    subst e1 e3
    exact hs i x0 T H (y1 xs q) e2 p
  · have e : i = xs.length := by omega
    subst e
    exact .inl ⟨⟨xs, q, Nat.le_refl _⟩, hd H p⟩
def intsB : List Value → List Int → Bool
  | [], [] => true
  | u :: us, n :: ns => (match u with | .int i _ => decide (i = n) | _ => false) && intsB us ns
  | _, _ => false
theorem intsB_vals : ∀ {us : List Value} {ns : List Int}, intsB us ns = true → Vals (ns.map V.int) us
  | [], [], _ => .nil
  | [], _ :: _, h => by simp [intsB] at h
  | _ :: _, [], h => by simp [intsB] at h
  | u :: us, n :: ns, h => by
    unfold intsB at h
    rw [Bool.and_eq_true] at h
    refine .cons ?_ (intsB_vals h.2)
    have h1 := h.1
    split at h1
    · rename_i i t
      have := of_decide_eq_true h1
      subst this
      exact ⟨_, rfl⟩
    · cases h1
def tupB (o : Obj) (ns : List Int) : Bool :=
  (match o.cls with | .type n => decide (n = "tuple") | _ => false) && (match o.data with | .seq its _ => decide (its.size ≤ 1000) && intsB its.toList ns | _ => false)
theorem tupB_sq {K : PySem.W.Frag} {a : Addr} {o : Obj} {ns : List Int} (ho : K.lookup a = some o) (h : tupB o ns = true) (H : Hp) : SqT K H a (ns.map V.int) := by
  unfold tupB at h
  rw [Bool.and_eq_true] at h
  obtain ⟨b1, b2⟩ := h
  have c1 : o.cls = .type "tuple" := by
    split at b1
    · rename_i n e1
      have := of_decide_eq_true b1
      subst this
      exact e1
    · cases b1
  split at b2
  · rename_i its n e1
    rw [Bool.and_eq_true] at b2
    exact .inr ⟨o, its, n, ho, c1, e1, Nat.le_trans (of_decide_eq_true b2.1) (by decide), intsB_vals b2.2⟩
  · cases b2
/-! ### what stands behind the top -/
structure Ad where
  C_Day : Addr
  C_Table : Addr
  f_Day_init : Addr
  d_Day_init : FuncData
  f_Day_all_stock : Addr
  d_Day_all_stock : FuncData
  f_Day_all_wanted_up_to : Addr
  d_Day_all_wanted_up_to : FuncData
  f_Day_all_brought_up_to : Addr
  d_Day_all_brought_up_to : FuncData
  f_Day_leasts : Addr
  d_Day_leasts : FuncData
  f_Day_all_lacking_behind : Addr
  d_Day_all_lacking_behind : FuncData
  f_Day_least_together : Addr
  d_Day_least_together : FuncData
  f_Day_tables_too_short : Addr
  d_Day_tables_too_short : FuncData
  f_Day_can_be_level : Addr
  d_Day_can_be_level : FuncData
  f_Day_over_gaps : Addr
  d_Day_over_gaps : FuncData
  f_Day_make_level : Addr
  d_Day_make_level : FuncData
  f_Table_init : Addr
  d_Table_init : FuncData
  f_Table_wanted_in : Addr
  d_Table_wanted_in : FuncData
  f_Table_wanted_up_to : Addr
  d_Table_wanted_up_to : FuncData
  f_Table_brought_up_to : Addr
  d_Table_brought_up_to : FuncData
  f_Table_there_behind : Addr
  d_Table_there_behind : FuncData
  f_Table_lacking_behind : Addr
  d_Table_lacking_behind : FuncData
  f_Table_least_needed : Addr
  d_Table_least_needed : FuncData
  f_Table_first_too_few : Addr
  d_Table_first_too_few : FuncData
  f_Table_most_wanted : Addr
  d_Table_most_wanted : FuncData
  f_Table_filled_up : Addr
  d_Table_filled_up : FuncData
  f_begin : Addr
  d_begin : FuncData
  f_add_table : Addr
  d_add_table : FuncData
  f_add_pass : Addr
  d_add_pass : FuncData
  f_bring : Addr
  d_bring : FuncData
  f_take : Addr
  d_take : FuncData
  f_set_stock : Addr
  d_set_stock : FuncData
  f_wants : Addr
  d_wants : FuncData
  f_there : Addr
  d_there : FuncData
  f_least : Addr
  d_least : FuncData
  f_short : Addr
  d_short : FuncData
  f_enough : Addr
  d_enough : FuncData
  f_apart : Addr
  d_apart : FuncData
  f_together : Addr
  d_together : FuncData
  f_latest : Addr
  d_latest : FuncData
  f_fewest : Addr
  d_fewest : FuncData
  f_steps_over : Addr
  d_steps_over : FuncData
  f_steps : Addr
  d_steps : FuncData
  f_level : Addr
  d_level : FuncData
  f_look : Addr
  d_look : FuncData
  f_sums : Addr
  d_sums : FuncData
  f_answer_at_table : Addr
  d_answer_at_table : FuncData
  f_answer : Addr
  d_answer : FuncData
  f_answers : Addr
  d_answers : FuncData
  q_WIDTHS : Addr
  q_DAY_CALLS : Addr
  q_TABLE_CALLS : Addr
structure Txt (K : PySem.W.Frag) (mg : Str → Option Value) (A : Ad) : Prop where
  cl_Day : Cls K A.C_Day
  g_Day : mg "Day" = some (.ref A.C_Day)
  k_Day : Mk K A.C_Day A.f_Day_init
  n_Day_minutes : NoAttr K A.C_Day "minutes"
  n_Day_stock : NoAttr K A.C_Day "stock"
  n_Day_tables : NoAttr K A.C_Day "tables"
  cl_Table : Cls K A.C_Table
  g_Table : mg "Table" = some (.ref A.C_Table)
  k_Table : Mk K A.C_Table A.f_Table_init
  n_Table_deliveries : NoAttr K A.C_Table "deliveries"
  n_Table_passes : NoAttr K A.C_Table "passes"
  n_Table_stock : NoAttr K A.C_Table "stock"
  n_Table_takes : NoAttr K A.C_Table "takes"
  F_Day_init : Fun K "__init__" "Day.__init__" s_Day_init A.f_Day_init A.d_Day_init
  b_Day_init : Binds K A.d_Day_init ["self"] []
  F_Day_all_stock : Fun K "all_stock" "Day.all_stock" s_Day_all_stock A.f_Day_all_stock A.d_Day_all_stock
  b_Day_all_stock : Binds K A.d_Day_all_stock ["self"] []
  m_Day_all_stock : Meth K A.C_Day "all_stock" A.f_Day_all_stock
  F_Day_all_wanted_up_to : Fun K "all_wanted_up_to" "Day.all_wanted_up_to" s_Day_all_wanted_up_to A.f_Day_all_wanted_up_to A.d_Day_all_wanted_up_to
  b_Day_all_wanted_up_to : Binds K A.d_Day_all_wanted_up_to ["self", "minute"] []
  m_Day_all_wanted_up_to : Meth K A.C_Day "all_wanted_up_to" A.f_Day_all_wanted_up_to
  F_Day_all_brought_up_to : Fun K "all_brought_up_to" "Day.all_brought_up_to" s_Day_all_brought_up_to A.f_Day_all_brought_up_to A.d_Day_all_brought_up_to
  b_Day_all_brought_up_to : Binds K A.d_Day_all_brought_up_to ["self", "minute"] []
  m_Day_all_brought_up_to : Meth K A.C_Day "all_brought_up_to" A.f_Day_all_brought_up_to
  F_Day_leasts : Fun K "leasts" "Day.leasts" s_Day_leasts A.f_Day_leasts A.d_Day_leasts
  b_Day_leasts : Binds K A.d_Day_leasts ["self"] []
  m_Day_leasts : Meth K A.C_Day "leasts" A.f_Day_leasts
  F_Day_all_lacking_behind : Fun K "all_lacking_behind" "Day.all_lacking_behind" s_Day_all_lacking_behind A.f_Day_all_lacking_behind A.d_Day_all_lacking_behind
  b_Day_all_lacking_behind : Binds K A.d_Day_all_lacking_behind ["self", "minute"] []
  m_Day_all_lacking_behind : Meth K A.C_Day "all_lacking_behind" A.f_Day_all_lacking_behind
  F_Day_least_together : Fun K "least_together" "Day.least_together" s_Day_least_together A.f_Day_least_together A.d_Day_least_together
  b_Day_least_together : Binds K A.d_Day_least_together ["self"] []
  m_Day_least_together : Meth K A.C_Day "least_together" A.f_Day_least_together
  F_Day_tables_too_short : Fun K "tables_too_short" "Day.tables_too_short" s_Day_tables_too_short A.f_Day_tables_too_short A.d_Day_tables_too_short
  b_Day_tables_too_short : Binds K A.d_Day_tables_too_short ["self"] []
  m_Day_tables_too_short : Meth K A.C_Day "tables_too_short" A.f_Day_tables_too_short
  F_Day_can_be_level : Fun K "can_be_level" "Day.can_be_level" s_Day_can_be_level A.f_Day_can_be_level A.d_Day_can_be_level
  b_Day_can_be_level : Binds K A.d_Day_can_be_level ["self"] []
  m_Day_can_be_level : Meth K A.C_Day "can_be_level" A.f_Day_can_be_level
  F_Day_over_gaps : Fun K "over_gaps" "Day.over_gaps" s_Day_over_gaps A.f_Day_over_gaps A.d_Day_over_gaps
  b_Day_over_gaps : Binds K A.d_Day_over_gaps ["self"] []
  m_Day_over_gaps : Meth K A.C_Day "over_gaps" A.f_Day_over_gaps
  F_Day_make_level : Fun K "make_level" "Day.make_level" s_Day_make_level A.f_Day_make_level A.d_Day_make_level
  b_Day_make_level : Binds K A.d_Day_make_level ["self"] []
  m_Day_make_level : Meth K A.C_Day "make_level" A.f_Day_make_level
  F_Table_init : Fun K "__init__" "Table.__init__" s_Table_init A.f_Table_init A.d_Table_init
  b_Table_init : Binds K A.d_Table_init ["self", "takes", "stock"] []
  F_Table_wanted_in : Fun K "wanted_in" "Table.wanted_in" s_Table_wanted_in A.f_Table_wanted_in A.d_Table_wanted_in
  b_Table_wanted_in : Binds K A.d_Table_wanted_in ["self", "minute"] []
  m_Table_wanted_in : Meth K A.C_Table "wanted_in" A.f_Table_wanted_in
  F_Table_wanted_up_to : Fun K "wanted_up_to" "Table.wanted_up_to" s_Table_wanted_up_to A.f_Table_wanted_up_to A.d_Table_wanted_up_to
  b_Table_wanted_up_to : Binds K A.d_Table_wanted_up_to ["self", "minute"] []
  m_Table_wanted_up_to : Meth K A.C_Table "wanted_up_to" A.f_Table_wanted_up_to
  F_Table_brought_up_to : Fun K "brought_up_to" "Table.brought_up_to" s_Table_brought_up_to A.f_Table_brought_up_to A.d_Table_brought_up_to
  b_Table_brought_up_to : Binds K A.d_Table_brought_up_to ["self", "minute"] []
  m_Table_brought_up_to : Meth K A.C_Table "brought_up_to" A.f_Table_brought_up_to
  F_Table_there_behind : Fun K "there_behind" "Table.there_behind" s_Table_there_behind A.f_Table_there_behind A.d_Table_there_behind
  b_Table_there_behind : Binds K A.d_Table_there_behind ["self", "minute"] []
  m_Table_there_behind : Meth K A.C_Table "there_behind" A.f_Table_there_behind
  F_Table_lacking_behind : Fun K "lacking_behind" "Table.lacking_behind" s_Table_lacking_behind A.f_Table_lacking_behind A.d_Table_lacking_behind
  b_Table_lacking_behind : Binds K A.d_Table_lacking_behind ["self", "minute"] []
  m_Table_lacking_behind : Meth K A.C_Table "lacking_behind" A.f_Table_lacking_behind
  F_Table_least_needed : Fun K "least_needed" "Table.least_needed" s_Table_least_needed A.f_Table_least_needed A.d_Table_least_needed
  b_Table_least_needed : Binds K A.d_Table_least_needed ["self", "minutes"] []
  m_Table_least_needed : Meth K A.C_Table "least_needed" A.f_Table_least_needed
  F_Table_first_too_few : Fun K "first_too_few" "Table.first_too_few" s_Table_first_too_few A.f_Table_first_too_few A.d_Table_first_too_few
  b_Table_first_too_few : Binds K A.d_Table_first_too_few ["self", "minutes"] []
  m_Table_first_too_few : Meth K A.C_Table "first_too_few" A.f_Table_first_too_few
  F_Table_most_wanted : Fun K "most_wanted" "Table.most_wanted" s_Table_most_wanted A.f_Table_most_wanted A.d_Table_most_wanted
  b_Table_most_wanted : Binds K A.d_Table_most_wanted ["self", "minutes"] []
  m_Table_most_wanted : Meth K A.C_Table "most_wanted" A.f_Table_most_wanted
  F_Table_filled_up : Fun K "filled_up" "Table.filled_up" s_Table_filled_up A.f_Table_filled_up A.d_Table_filled_up
  b_Table_filled_up : Binds K A.d_Table_filled_up ["self", "holds", "minutes"] []
  m_Table_filled_up : Meth K A.C_Table "filled_up" A.f_Table_filled_up
  F_begin : Fun K "begin" "begin" s_begin A.f_begin A.d_begin
  b_begin : Binds K A.d_begin ["day", "numbers"] []
  g_begin : mg "begin" = some (.ref A.f_begin)
  F_add_table : Fun K "add_table" "add_table" s_add_table A.f_add_table A.d_add_table
  b_add_table : Binds K A.d_add_table ["day", "numbers"] []
  g_add_table : mg "add_table" = some (.ref A.f_add_table)
  F_add_pass : Fun K "add_pass" "add_pass" s_add_pass A.f_add_pass A.d_add_pass
  b_add_pass : Binds K A.d_add_pass ["day", "table", "numbers"] []
  g_add_pass : mg "add_pass" = some (.ref A.f_add_pass)
  F_bring : Fun K "bring" "bring" s_bring A.f_bring A.d_bring
  b_bring : Binds K A.d_bring ["day", "table", "numbers"] []
  g_bring : mg "bring" = some (.ref A.f_bring)
  F_take : Fun K "take" "take" s_take A.f_take A.d_take
  b_take : Binds K A.d_take ["day", "table", "numbers"] []
  g_take : mg "take" = some (.ref A.f_take)
  F_set_stock : Fun K "set_stock" "set_stock" s_set_stock A.f_set_stock A.d_set_stock
  b_set_stock : Binds K A.d_set_stock ["day", "table", "numbers"] []
  g_set_stock : mg "set_stock" = some (.ref A.f_set_stock)
  F_wants : Fun K "wants" "wants" s_wants A.f_wants A.d_wants
  b_wants : Binds K A.d_wants ["day", "table", "numbers"] []
  g_wants : mg "wants" = some (.ref A.f_wants)
  F_there : Fun K "there" "there" s_there A.f_there A.d_there
  b_there : Binds K A.d_there ["day", "table", "numbers"] []
  g_there : mg "there" = some (.ref A.f_there)
  F_least : Fun K "least" "least" s_least A.f_least A.d_least
  b_least : Binds K A.d_least ["day", "table", "numbers"] []
  g_least : mg "least" = some (.ref A.f_least)
  F_short : Fun K "short" "short" s_short A.f_short A.d_short
  b_short : Binds K A.d_short ["day", "table", "numbers"] []
  g_short : mg "short" = some (.ref A.f_short)
  F_enough : Fun K "enough" "enough" s_enough A.f_enough A.d_enough
  b_enough : Binds K A.d_enough ["day", "numbers"] []
  g_enough : mg "enough" = some (.ref A.f_enough)
  F_apart : Fun K "apart" "apart" s_apart A.f_apart A.d_apart
  b_apart : Binds K A.d_apart ["day", "numbers"] []
  g_apart : mg "apart" = some (.ref A.f_apart)
  F_together : Fun K "together" "together" s_together A.f_together A.d_together
  b_together : Binds K A.d_together ["day", "numbers"] []
  g_together : mg "together" = some (.ref A.f_together)
  F_latest : Fun K "latest" "latest" s_latest A.f_latest A.d_latest
  b_latest : Binds K A.d_latest ["day", "table", "numbers"] []
  g_latest : mg "latest" = some (.ref A.f_latest)
  F_fewest : Fun K "fewest" "fewest" s_fewest A.f_fewest A.d_fewest
  b_fewest : Binds K A.d_fewest ["day", "table", "numbers"] []
  g_fewest : mg "fewest" = some (.ref A.f_fewest)
  F_steps_over : Fun K "steps_over" "steps_over" s_steps_over A.f_steps_over A.d_steps_over
  b_steps_over : Binds K A.d_steps_over ["gaps"] []
  g_steps_over : mg "steps_over" = some (.ref A.f_steps_over)
  F_steps : Fun K "steps" "steps" s_steps A.f_steps A.d_steps
  b_steps : Binds K A.d_steps ["day", "numbers"] []
  g_steps : mg "steps" = some (.ref A.f_steps)
  F_level : Fun K "level" "level" s_level A.f_level A.d_level
  b_level : Binds K A.d_level ["day", "numbers"] []
  g_level : mg "level" = some (.ref A.f_level)
  F_look : Fun K "look" "look" s_look A.f_look A.d_look
  b_look : Binds K A.d_look ["day", "table", "numbers"] []
  g_look : mg "look" = some (.ref A.f_look)
  F_sums : Fun K "sums" "sums" s_sums A.f_sums A.d_sums
  b_sums : Binds K A.d_sums ["day", "numbers"] []
  g_sums : mg "sums" = some (.ref A.f_sums)
  F_answer_at_table : Fun K "answer_at_table" "answer_at_table" s_answer_at_table A.f_answer_at_table A.d_answer_at_table
  b_answer_at_table : Binds K A.d_answer_at_table ["day", "number", "numbers"] []
  g_answer_at_table : mg "answer_at_table" = some (.ref A.f_answer_at_table)
  F_answer : Fun K "answer" "answer" s_answer A.f_answer A.d_answer
  b_answer : Binds K A.d_answer ["day", "number", "numbers"] []
  g_answer : mg "answer" = some (.ref A.f_answer)
  F_answers : Fun K "answers" "answers" s_answers A.f_answers A.d_answers
  b_answers : Binds K A.d_answers ["calls"] []
  g_answers : mg "answers" = some (.ref A.f_answers)
  c_MOST_MINUTES : ∃ t, mg "MOST_MINUTES" = some (.int (400) t)
  c_MOST_TABLES : ∃ t, mg "MOST_TABLES" = some (.int (5) t)
  c_MOST_TAKEN : ∃ t, mg "MOST_TAKEN" = some (.int (9) t)
  c_MOST_CUPS : ∃ t, mg "MOST_CUPS" = some (.int (100000) t)
  c_MOST_PASSES : ∃ t, mg "MOST_PASSES" = some (.int (6) t)
  c_MOST_RUNNERS : ∃ t, mg "MOST_RUNNERS" = some (.int (1000) t)
  c_MOST_DELIVERIES : ∃ t, mg "MOST_DELIVERIES" = some (.int (6) t)
  c_NO_TABLE : ∃ t, mg "NO_TABLE" = some (.int (-2) t)
  c_NONE_THERE : ∃ t, mg "NONE_THERE" = some (.int (-6) t)
  c_NOT_AS_TOLD : ∃ t, mg "NOT_AS_TOLD" = some (.int (-22) t)
  c_FULL : ∃ t, mg "FULL" = some (.int (-28) t)
  c_CANNOT_BE : ∃ t, mg "CANNOT_BE" = some (.int (-33) t)
  c_NOT_BEGUN : ∃ t, mg "NOT_BEGUN" = some (.int (-61) t)
  c_BEGIN : ∃ t, mg "BEGIN" = some (.int (0) t)
  q_WIDTHS : mg "WIDTHS" = some (.ref A.q_WIDTHS)
  s_WIDTHS : ∀ H : Hp, SqT K H A.q_WIDTHS (([(1), (2), (4), (3), (1), (2), (2), (2), (1), (1), (0), (0), (0), (2), (2), (0), (0), (1), (0)] : List Int).map V.int)
  q_DAY_CALLS : mg "DAY_CALLS" = some (.ref A.q_DAY_CALLS)
  s_DAY_CALLS : MDict K A.q_DAY_CALLS [(1, A.f_add_table), (10, A.f_enough), (11, A.f_apart), (12, A.f_together), (15, A.f_steps), (16, A.f_level), (18, A.f_sums)]
  q_TABLE_CALLS : mg "TABLE_CALLS" = some (.ref A.q_TABLE_CALLS)
  s_TABLE_CALLS : MDict K A.q_TABLE_CALLS [(2, A.f_add_pass), (3, A.f_bring), (4, A.f_take), (5, A.f_set_stock), (6, A.f_wants), (7, A.f_there), (8, A.f_least), (9, A.f_short), (13, A.f_latest), (14, A.f_fewest), (17, A.f_look)]
  z_abs : mg "abs" = none
  z_enumerate : mg "enumerate" = none
  z_len : mg "len" = none
  z_max : mg "max" = none
  z_min : mg "min" = none
  z_range : mg "range" = none
  z_sum : mg "sum" = none
  z_zip : mg "zip" = none
/-! ### heaps -/
theorem same_new {H : Hp} {p : Addr} (h : H p = none) (o : HO) : Same H (upd H p o) := fun b q e => by
  rw [upd_ne (ne_of_none e h)]
  exact e
theorem same_put {H H' : Hp} {p : Addr} (s : Same H H') (h : H p = none) (o : HO) : Same H (upd H' p o) := fun b q e => by
  rw [upd_ne (ne_of_none e h)]
  exact s b q e
theorem same_newT {H H' : Hp} {p : Addr} (s : Same H H') (h : H' p = none) (o : HO) : Same H (upd H' p o) := s.trans (same_new h o)
theorem small400 {n : Nat} (h : n ≤ 400) : n < sizeLine := Nat.lt_of_le_of_lt h (by decide)
theorem small400' {n : Nat} (h : n ≤ 400) : n ≤ sizeLine := Nat.le_of_lt (small400 h)
theorem Paired.get {α β : Type} {R : α → β → Prop} : ∀ {xs : List α} {ys : List β}, Paired R xs ys → ∀ {i : Nat} {a : α}, xs[i]? = some a → ∃ b, ys[i]? = some b ∧ R a b
  | _, _, .nil, i, a, h => by simp at h
  | _, _, .cons r t, 0, a, h => by
    have e := Option.some.inj h
    subst e
    exact ⟨_, rfl, r⟩
  | _, _, .cons r t, i + 1, a, h => Paired.get t (i := i) h
theorem Paired.get' {α β : Type} {R : α → β → Prop} : ∀ {xs : List α} {ys : List β}, Paired R xs ys → ∀ {i : Nat} {b : β}, ys[i]? = some b → ∃ a, xs[i]? = some a ∧ R a b
  | _, _, .nil, i, a, h => by simp at h
  | _, _, .cons r t, 0, a, h => by
    have e := Option.some.inj h
    subst e
    exact ⟨_, rfl, r⟩
  | _, _, .cons r t, i + 1, a, h => Paired.get' t (i := i) h
theorem Paired.imp {α β : Type} {R R' : α → β → Prop} (h : ∀ a b, R a b → R' a b) : ∀ {xs : List α} {ys : List β}, Paired R xs ys → Paired R' xs ys
  | _, _, .nil => .nil
  | _, _, .cons r t => .cons (h _ _ r) (Paired.imp h t)
theorem Paired.impM {α β : Type} {R R' : α → β → Prop} : ∀ {xs : List α} {ys : List β}, (∀ a b, a ∈ xs → R a b → R' a b) → Paired R xs ys → Paired R' xs ys
  | _, _, _, .nil => .nil
  | _, _, h, .cons r t => .cons (h _ _ List.mem_cons_self r) (Paired.impM (fun a b m => h a b (List.mem_cons_of_mem _ m)) t)
theorem Paired.len {α β : Type} {R : α → β → Prop} : ∀ {xs : List α} {ys : List β}, Paired R xs ys → xs.length = ys.length
  | _, _, .nil => rfl
  | _, _, .cons _ t => congrArg (· + 1) (Paired.len t)
theorem Paired.snoc' {α β : Type} {R : α → β → Prop} {a : α} {b : β} (r : R a b) : ∀ {xs : List α} {ys : List β}, Paired R xs ys → Paired R (xs ++ [a]) (ys ++ [b])
  | _, _, .nil => .cons r .nil
  | _, _, .cons q t => .cons q (Paired.snoc' r t)
theorem Paired.dropLast' {α β : Type} {R : α → β → Prop} : ∀ {xs : List α} {ys : List β}, Paired R xs ys → Paired R xs.dropLast ys.dropLast
  | _, _, .nil => .nil
  | _, _, .cons _ .nil => .nil
  | _, _, .cons r (.cons q t) => .cons r (Paired.dropLast' (.cons q t))
theorem Paired.set' {α β : Type} {R : α → β → Prop} {b' : β} : ∀ {xs : List α} {ys : List β} {j : Nat} {a : α}, Paired R xs ys → xs[j]? = some a → R a b' → Paired R xs (ys.set j b')
  | _, _, j, a, .nil, h, _ => by simp at h
  | _, _, 0, a, .cons r t, h, q => by
    have e := Option.some.inj h
    subst e
    exact .cons q t
  | _, _, j + 1, a, .cons r t, h, q => .cons r (Paired.set' (j := j) t h q)
/-! ### a table -/
open Kh342 (Pass Table Abs upTo)
structure TR where
  a : Addr
  lp : Addr
  ld : Addr
def tf (t s : Int) (lp ld : Addr) : List (Str × V) := [("takes", .int t), ("stock", .int s), ("passes", .ref lp), ("deliveries", .ref ld)]
theorem tf_takes {t s lp ld} : (tf t s lp ld).lookup ("takes" : Str) = some (V.int t) := rfl
theorem tf_stock {t s lp ld} : (tf t s lp ld).lookup ("stock" : Str) = some (V.int s) := rfl
theorem tf_passes {t s lp ld} : (tf t s lp ld).lookup ("passes" : Str) = some (V.ref lp) := rfl
theorem tf_deliveries {t s lp ld} : (tf t s lp ld).lookup ("deliveries" : Str) = some (V.ref ld) := rfl
theorem tf_put {t s s' lp ld} : putF "stock" (V.int s') (tf t s lp ld) = tf t s' lp ld := rfl
theorem tf_init {t s lp ld} : putF "deliveries" (V.ref ld) (putF "passes" (V.ref lp) (putF "stock" (V.int s) (putF "takes" (V.int t) []))) = tf t s lp ld := rfl
def PassAt (H : Hp) (b : Addr) (p : Pass) : Prop := H b = some (.tup [.int p.at_, .int p.long, .int p.many])
def DelAt (H : Hp) (b : Addr) (p : Nat × Nat) : Prop := H b = some (.tup [.int p.1, .int p.2])
structure Good (x : Table) : Prop where
  takes : x.takes ≤ 9
  passes : x.passes.length ≤ 6
  many : ∀ p ∈ x.passes, p.many ≤ 1000
  brought : x.brought.length ≤ 6
structure TblAt (C : Addr) (H : Hp) (r : TR) (x : Table) : Prop where
  ob : ∃ dx, H r.a = some (.ins C dx (tf x.takes x.stock r.lp r.ld))
  ps : ∃ as : List Addr, H r.lp = some (.lst (as.map V.ref)) ∧ Paired (PassAt H) as x.passes
  ds : ∃ as : List Addr, H r.ld = some (.lst (as.map V.ref)) ∧ Paired (DelAt H) as x.brought
  ok : Good x
theorem TblAt.same {C : Addr} {H H' : Hp} {r : TR} {x : Table} (h : TblAt C H r x) (s : Same H H') : TblAt C H' r x := by
  obtain ⟨⟨dx, o⟩, ⟨ap, p1, p2⟩, ⟨ad, d1, d2⟩, g⟩ := h
  exact ⟨⟨dx, s _ _ o⟩, ⟨ap, s _ _ p1, Paired.imp (fun a b q => s _ _ q) p2⟩, ⟨ad, s _ _ d1, Paired.imp (fun a b q => s _ _ q) d2⟩, g⟩
/-- the three objects of the table kept, and every tuple -/
theorem TblAt.keep {C : Addr} {H H' : Hp} {r : TR} {x : Table} (h : TblAt C H r x) (h1 : ∀ o, H r.a = some o → H' r.a = some o) (h2 : ∀ o, H r.lp = some o → H' r.lp = some o) (h3 : ∀ o, H r.ld = some o → H' r.ld = some o)
    (ht : ∀ b xs, H b = some (.tup xs) → H' b = some (.tup xs)) : TblAt C H' r x := by
  obtain ⟨⟨dx, o⟩, ⟨ap, p1, p2⟩, ⟨ad, d1, d2⟩, g⟩ := h
  exact ⟨⟨dx, h1 _ o⟩, ⟨ap, h2 _ p1, Paired.imp (fun a b q => ht _ _ q) p2⟩, ⟨ad, h3 _ d1, Paired.imp (fun a b q => ht _ _ q) d2⟩, g⟩
/-- a method that reads a table: one number in, one number out, all that was tracked as it was -/
def spRead (C : Addr) (pre : Table → Nat → Prop) (g : Table → Nat → Int) : Sp := fun vs H Q _ => ∃ (r : TR) (x : Table) (t : Nat), vs = [.ref r.a, .int t] ∧ TblAt C H r x ∧ pre x t ∧ ∀ H' : Hp, Same H H' → Q (.int (g x t)) H'
theorem spRead_len {C : Addr} {pre : Table → Nat → Prop} {g : Table → Nat → Int} (vs : List V) (H : Hp) (Q : VK) (E : XK) (h : spRead C pre g vs H Q E) : vs.length = 2 := by
  obtain ⟨r, x, t, rfl, _⟩ := h
  rfl
/-! ### a day -/
structure DR where
  d : Addr
  lt : Addr
  rs : List TR
def DR.foot (D : DR) : List Addr := D.d :: D.lt :: D.rs.flatMap fun r => [r.a, r.lp, r.ld]
def df (m : Int) (lt : Addr) : List (Str × V) := [("minutes", .int m), ("tables", .ref lt)]
theorem df_minutes {m lt} : (df m lt).lookup ("minutes" : Str) = some (V.int m) := rfl
theorem df_tables {m lt} : (df m lt).lookup ("tables" : Str) = some (V.ref lt) := rfl
theorem df_init {m lt} : putF "tables" (V.ref lt) (putF "minutes" (V.int m) []) = df m lt := rfl
theorem df_put {m m' lt lt'} : putF "tables" (V.ref lt') (putF "minutes" (V.int m') (df m lt)) = df m' lt' := rfl
def minutesOf : Option Abs → Nat
  | none => 0
  | some a => a.day
def tablesOf : Option Abs → List Table
  | none => []
  | some a => a.tables
structure GoodDay (s : Option Abs) : Prop where
  day : ∀ a, s = some a → 1 ≤ a.day ∧ a.day ≤ 400
  few : (tablesOf s).length ≤ 5
  late : ∀ x ∈ tablesOf s, ∀ b ∈ x.brought, b.1 < minutesOf s
structure DayAt (A : Ad) (H : Hp) (D : DR) (s : Option Abs) : Prop where
  ob : ∃ dx, H D.d = some (.ins A.C_Day dx (df (minutesOf s) D.lt))
  ls : H D.lt = some (.lst (D.rs.map fun r => V.ref r.a))
  tb : Paired (TblAt A.C_Table H) D.rs (tablesOf s)
  nd : D.foot.Nodup
  ok : GoodDay s
theorem DayAt.same {A : Ad} {H H' : Hp} {D : DR} {s : Option Abs} (h : DayAt A H D s) (q : Same H H') : DayAt A H' D s := by
  obtain ⟨⟨dx, o⟩, l, t, n, g⟩ := h
  exact ⟨⟨dx, q _ _ o⟩, q _ _ l, Paired.imp (fun a b z => z.same q) t, n, g⟩
/-- what a call leaves: the day in its new state, the answer in a new list, all else as it was -/
def Ret (A : Ad) (H : Hp) (D : DR) (s' : Option Abs) (ans : List Int) (Q : VK) : Prop :=
  ∀ (H' : Hp) (D' : DR) (p : Addr), DayAt A H' D' s' → D'.d = D.d → H p = none → H' p = some (.lst (ans.map V.int)) → (∀ b o, H b = some o → b ∉ D.foot → H' b = some o) → (∀ b ∈ D'.foot, b ∈ D.foot ∨ H b = none) → Q (.ref p) H'
def ansOf (r : Option Abs × Kh342.Ans) : List Int := r.2.ret :: r.2.out
/-- a call that reads: the answer in a new list, all that was tracked as it was -/
theorem Ret.read {A : Ad} {H : Hp} {D : DR} {s : Option Abs} {ans : List Int} {Q : VK} (k : Ret A H D s ans Q) (B : DayAt A H D s) {H' : Hp} (q : Same H H') {p : Addr} (hp : H' p = none) : Q (.ref p) (upd H' p (.lst (ans.map V.int))) :=
  k _ D p (B.same (same_newT q hp _)) rfl (q.free hp) upd_same (fun b o e _ => same_newT q hp _ b o e) fun _ h => .inl h
end Cup
end

section
set_option Elab.async false
set_option linter.all false
set_option maxRecDepth 100000
set_option maxHeartbeats 4000000
/-! The methods of a table. -/
namespace Cup
open PySem PySem.Spec PyProof.Rows L2
open Kh342 (Pass Table Abs upTo)
section
variable {P : Program} {w : World} {K : PySem.W.Frag} {mg : Str → Option Value} {base : Heap} {A : Ad}
theorem map_at {α β : Type} {f : α → β} {l : List α} {i : Nat} {y : β} (h : (l.map f)[i]? = some y) : ∃ a, l[i]? = some a ∧ y = f a := by
  rw [List.getElem?_map] at h
  cases e : l[i]? with
  | none =>
    rw [e] at h
    cases h
  | some a =>
    rw [e] at h
    exact ⟨a, rfl, (Option.some.inj h).symm⟩
theorem take_snoc {α : Type} {l : List α} {i : Nat} {x : α} (h : l[i]? = some x) : l.take (i + 1) = l.take i ++ [x] := by
  rw [List.take_add_one, h]
  rfl
theorem sum_snoc (l : List Int) (z : Int) : (l ++ [z]).sum = l.sum + z := by
  induction l with
  | nil => simp
  | cons a r ih => rw [List.cons_append, List.sum_cons, List.sum_cons, ih]; omega
/-! ### Table.wanted_up_to -/
theorem sc_Table_wanted_up_to : FnScope ["self", "minute", "runners", "first", "length", "many"] ["self", "minute"] (defScope s_Table_wanted_up_to) := ⟨rfl, rfl, rfl, by decide +kernel, rfl, by decide +kernel, by decide +kernel⟩
def runUp (x : Table) (t i : Nat) : Int := ((x.passes.take i).map fun p => (p.many : Int) * ((min (t + 1 - p.at_) p.long : Nat) : Int)).sum
theorem runUp_succ {x : Table} {t i : Nat} {p : Pass} (h : x.passes[i]? = some p) : runUp x t (i + 1) = runUp x t i + (p.many : Int) * ((min (t + 1 - p.at_) p.long : Nat) : Int) := by
  unfold runUp
  rw [take_snoc h, List.map_append, List.map_cons, List.map_nil, sum_snoc]
theorem minmax (t f l : Nat) : (if (if (l : Int) < (t : Int) + 1 - (f : Int) then (l : Int) else (t : Int) + 1 - (f : Int)) > 0 then (if (l : Int) < (t : Int) + 1 - (f : Int) then (l : Int) else (t : Int) + 1 - (f : Int)) else 0) = ((min (t + 1 - f) l : Nat) : Int) := by
  split <;> split <;> omega
theorem ok_Table_wanted_up_to (T : Txt K mg A) : FnOk P w K mg base CX0 1 A.f_Table_wanted_up_to A.d_Table_wanted_up_to ["self", "minute"] (spRead A.C_Table (fun _ _ => True) fun x t => ((upTo x.wants t : Nat) : Int)) := by
  refine T.F_Table_wanted_up_to.ok sc_Table_wanted_up_to spRead_len fun cdv A' outer s H vs Q E hr h => ?_
  obtain ⟨r, x, t, rfl, B, _, k⟩ := h
  obtain ⟨⟨dx, ho⟩, ⟨ap, hp, pp⟩, _, g⟩ := id B
  refine ⟨_, (pss_cons (ps_set (i := 2) sc_Table_wanted_up_to.nd rfl (Or.inl rfl) pe_int)
      (pss_cons (ps_for PassesOwn.never rfl (pi_list (pe_fld (pv 0) rfl)) (pg_tup rfl (pgs_cons (pg_name (i := 3) sc_Table_wanted_up_to.nd rfl (Or.inl rfl)) (pgs_cons (pg_name (i := 4) sc_Table_wanted_up_to.nd rfl (Or.inl rfl)) (pgs_cons (pg_name (i := 5) sc_Table_wanted_up_to.nd rfl (Or.inl rfl)) pgs_nil))))
        (pss_one (ps_aug (i := 2) sc_Table_wanted_up_to.nd rfl (Or.inl rfl) (pe_op op_mul (pv 5) (pe_callB (call_max2 rfl) rfl T.z_max boot_max (pa_cons pe_int (pa_cons (pe_callB (call_min2 rfl) rfl T.z_min boot_min (pa_cons (pe_op op_sub (pe_op op_add (pv 1) pe_int) (pv 3)) (pa_cons (pv 4) pa_nil))) pa_nil)))) ip_add)))
      (pss_one (ps_ret (pe_op op_mul (pe_fld (pv 0) rfl) (pv 2)))))), ?_⟩
  refine ⟨_, rfl, r.a, A.C_Table, dx, _, _, rfl, ho, T.cl_Table, T.n_Table_passes, tf_passes, r.lp, rfl, ⟨_, SqL.of hp⟩, for_list (K := K) (a := r.lp) (xs := ap.map V.ref)
    (fun i σ H' => ∃ v3 v4 v5 : Option V, σ = [some (.ref r.a), some (.int t), some (.int (runUp x t i)), v3, v4, v5] ∧ Same H H') ⟨none, none, none, rfl, Same.refl H⟩ (fun i σ H' _ ⟨_, _, _, _, s5⟩ => SqL.of (s5 _ _ hp)) ?_ ?_⟩
  · rintro i y σ H' hi ⟨v3, v4, v5, rfl, s5⟩
    obtain ⟨b, hb, rfl⟩ := map_at hi
    obtain ⟨p, hpi, hpb⟩ := Paired.get pp hb
    have hm := g.many p (List.mem_of_getElem? hpi)
    refine ⟨b, _, rfl, SqT.of (s5 _ _ hpb), rfl, _, _, rfl, _, _, rfl, _, _, rfl, rfl, ?_⟩
    refine ⟨_, rfl, _, rfl, _, rfl, _, _, rfl, rfl, _, rfl, _, _, rfl, rfl, _, rfl, _, _, rfl, _, _, rfl, _, _, rfl, rfl, .inl ⟨by omega, by omega⟩, _, _, rfl, rfl, ?_⟩
    refine ⟨some (.int p.at_), some (.int p.long), some (.int p.many), ?_, s5⟩
    rw [minmax, runUp_succ hpi]
    rfl
  · rintro σ H' ⟨v3, v4, v5, rfl, s5⟩
    refine ⟨_, rfl, r.a, A.C_Table, dx, _, _, rfl, s5 _ _ ho, T.cl_Table, T.n_Table_takes, tf_takes, _, rfl, _, _, rfl, rfl, .inl ⟨by omega, by have := g.takes; omega⟩, ?_⟩
    have e : (x.takes : Int) * runUp x t (ap.map V.ref).length = ((upTo x.wants t : Nat) : Int) := by
      rw [CupMath.upTo_wants_int, List.length_map, Paired.len pp]
      unfold runUp
      rw [List.take_length]
    show Q (V.int (_ * _)) H'
    rw [e]
    exact k H' s5
/-! ### Table.wanted_in -/
def isAt (t : Nat) (p : Pass) : Bool := decide (p.at_ ≤ t) && decide (t < p.at_ + p.long)
def manyIn (x : Table) (t i : Nat) : List Int := ((x.passes.take i).filter (isAt t)).map fun p => (p.many : Int)
theorem manyIn_yes {x : Table} {t i : Nat} {p : Pass} (h : x.passes[i]? = some p) (q : isAt t p = true) : manyIn x t (i + 1) = manyIn x t i ++ [(p.many : Int)] := by
  unfold manyIn
  rw [take_snoc h, List.filter_append, List.filter_cons, if_pos q, List.map_append]
  rfl
theorem manyIn_no {x : Table} {t i : Nat} {p : Pass} (h : x.passes[i]? = some p) (q : isAt t p = false) : manyIn x t (i + 1) = manyIn x t i := by
  unfold manyIn
  rw [take_snoc h, List.filter_append, List.filter_cons, if_neg (by rw [q]; decide), List.filter_nil, List.append_nil]
theorem manyIn_len (x : Table) (t i : Nat) : (manyIn x t i).length ≤ x.passes.length := by
  unfold manyIn
  rw [List.length_map]
  exact Nat.le_trans (List.length_filter_le _ _) (by rw [List.length_take]; omega)
theorem sc_Table_wanted_in : FnScope ["self", "minute", "runners", "first", "length", "many"] ["self", "minute"] (defScope s_Table_wanted_in) := ⟨rfl, rfl, rfl, by decide +kernel, rfl, by decide +kernel, by decide +kernel⟩
theorem ok_Table_wanted_in (T : Txt K mg A) : FnOk P w K mg base CX0 1 A.f_Table_wanted_in A.d_Table_wanted_in ["self", "minute"] (spRead A.C_Table (fun _ _ => True) fun x t => ((x.wants t : Nat) : Int)) := by
  refine T.F_Table_wanted_in.ok sc_Table_wanted_in spRead_len fun cdv A' outer s H vs Q E hr h => ?_
  obtain ⟨r, x, t, rfl, B, _, k⟩ := h
  obtain ⟨⟨dx, ho⟩, ⟨ap, hp, pp⟩, _, g⟩ := id B
  refine ⟨_, (pss_cons (ps_setLc (own := [("first", 3), ("length", 4), ("many", 5)]) (g := (gTup K 3 (gCons _ (gCons _ (gCons _ gNil))))) (i := 2) rfl sc_Table_wanted_in.nd rfl rfl (sw_true rfl rfl rfl (by decide +kernel)) (pi_list (pe_fld (pv 0) rfl)) (blkOk_by (by rfl)) (fun _ _ _ _ _ => (pg_tup rfl (pgs_cons (pg_name (i := 3) sc_Table_wanted_in.nd rfl (Or.inl rfl)) (pgs_cons (pg_name (i := 4) sc_Table_wanted_in.nd rfl (Or.inl rfl)) (pgs_cons (pg_name (i := 5) sc_Table_wanted_in.nd rfl (Or.inl rfl)) pgs_nil))))) (fun _ _ _ _ _ => (pts_one (pt_chain op_le op_lt (pv 3) (pv 1) (pe_op op_add (pv 3) (pv 4))))) (fun _ _ _ _ _ => (pv 5)))
      (pss_one (ps_ret (pe_op op_mul (pe_fld (pv 0) rfl) (pe_callB (cr_sum rfl) rfl T.z_sum boot_sum (pa_cons (pv 2) pa_nil)))))), ?_⟩
  refine ⟨_, rfl, r.a, A.C_Table, dx, _, _, rfl, ho, T.cl_Table, T.n_Table_passes, tf_passes, r.lp, rfl, ⟨_, SqL.of hp⟩, fun L hL => lc_list (K := K) (a := r.lp) (xs := ap.map V.ref)
    (fun i H' => Same H H' ∧ H' L = some (.lst ((manyIn x t i).map V.int))) ⟨same_new hL _, upd_same⟩ (fun i H' _ ⟨s5, _⟩ => SqL.of (s5 _ _ hp)) ?_ ?_⟩
  · rintro i y H' hi ⟨s5, hl⟩
    obtain ⟨b, hb, rfl⟩ := map_at hi
    obtain ⟨p, hpi, hpb⟩ := Paired.get pp hb
    have hlen : ((manyIn x t i).map V.int).length < sizeLine := by
      rw [List.length_map]
      exact small400 (Nat.le_trans (manyIn_len x t i) (by have := g.passes; omega))
    refine ⟨b, _, rfl, SqT.of (s5 _ _ hpb), rfl, _, _, rfl, _, _, rfl, _, _, rfl, rfl, rfl, _, rfl, _, rfl, _, _, rfl, rfl, _, rfl, ?_⟩
    refine ite2 (fun h1 => ?_) (fun h1 => ?_)
    · refine ⟨_, rfl, _, rfl, _, _, rfl, rfl, _, _, rfl, rfl, _, rfl, ?_⟩
      refine ite2 (fun h2 => ?_) (fun h2 => ?_)
      · refine ⟨_, rfl, _, hl, hlen, same_put s5 hL _, ?_⟩
        rw [upd_same, manyIn_yes hpi (by have := of_decide_eq_true h1; have := of_decide_eq_true h2; unfold isAt; rw [Bool.and_eq_true]; exact ⟨decide_eq_true (by omega), decide_eq_true (by omega)⟩), List.map_append]
        rfl
      · refine ⟨s5, ?_⟩
        rw [manyIn_no hpi, hl]
        unfold isAt
        rw [Bool.and_eq_false_iff]
        refine .inr (decide_eq_false fun z => h2 (decide_eq_true (by omega)))
    · refine ⟨_, rfl, ?_⟩
      refine iteF ⟨s5, ?_⟩
      rw [manyIn_no hpi, hl]
      unfold isAt
      rw [Bool.and_eq_false_iff]
      exact .inl (decide_eq_false fun z => h1 (decide_eq_true (by omega)))
  · rintro H' ⟨s5, hl⟩
    refine ⟨_, rfl, r.a, A.C_Table, dx, _, _, rfl, s5 _ _ ho, T.cl_Table, T.n_Table_takes, tf_takes, _, rfl, L, _, rfl, SqL.of hl, _, _, rfl, rfl, .inl ⟨by omega, by have := g.takes; omega⟩, ?_⟩
    have e : (x.takes : Int) * (manyIn x t (ap.map V.ref).length).sum = ((x.wants t : Nat) : Int) := by
      rw [CupMath.wants_int, List.length_map, Paired.len pp]
      unfold manyIn
      rw [List.take_length]
      rfl
    show Q (V.int (_ * _)) H'
    rw [e]
    exact k H' s5
/-! ### Table.brought_up_to -/
def cupsTo (x : Table) (t i : Nat) : List Int := ((x.brought.take i).filter fun b => decide (b.1 ≤ t)).map fun b => (b.2 : Int)
theorem cupsTo_yes {x : Table} {t i : Nat} {b : Nat × Nat} (h : x.brought[i]? = some b) (q : b.1 ≤ t) : cupsTo x t (i + 1) = cupsTo x t i ++ [(b.2 : Int)] := by
  unfold cupsTo
  rw [take_snoc h, List.filter_append, List.filter_cons, if_pos (decide_eq_true q), List.map_append]
  rfl
theorem cupsTo_no {x : Table} {t i : Nat} {b : Nat × Nat} (h : x.brought[i]? = some b) (q : ¬ b.1 ≤ t) : cupsTo x t (i + 1) = cupsTo x t i := by
  unfold cupsTo
  rw [take_snoc h, List.filter_append, List.filter_cons, if_neg (by rw [decide_eq_false q]; decide), List.filter_nil, List.append_nil]
theorem cupsTo_len (x : Table) (t i : Nat) : (cupsTo x t i).length ≤ x.brought.length := by
  unfold cupsTo
  rw [List.length_map]
  exact Nat.le_trans (List.length_filter_le _ _) (by rw [List.length_take]; omega)
theorem sc_Table_brought_up_to : FnScope ["self", "minute", "when", "cups"] ["self", "minute"] (defScope s_Table_brought_up_to) := ⟨rfl, rfl, rfl, by decide +kernel, rfl, by decide +kernel, by decide +kernel⟩
theorem ok_Table_brought_up_to (T : Txt K mg A) : FnOk P w K mg base CX0 1 A.f_Table_brought_up_to A.d_Table_brought_up_to ["self", "minute"] (spRead A.C_Table (fun _ _ => True) fun x t => ((upTo x.comes t : Nat) : Int)) := by
  refine T.F_Table_brought_up_to.ok sc_Table_brought_up_to spRead_len fun cdv A' outer s H vs Q E hr h => ?_
  obtain ⟨r, x, t, rfl, B, _, k⟩ := h
  obtain ⟨⟨dx, ho⟩, _, ⟨ad, hd, pd⟩, g⟩ := id B
  refine ⟨_, (pss_one (ps_ret (pe_callB (cr_sum rfl) rfl T.z_sum boot_sum (pa_cons (pe_lc (own := [("when", 2), ("cups", 3)]) (g := (gTup K 2 (gCons _ (gCons _ gNil)))) rfl sc_Table_brought_up_to.nd (pi_list (pe_fld (pv 0) rfl)) (blkOk_by (by rfl)) (fun _ _ _ _ _ => (pg_tup rfl (pgs_cons (pg_name (i := 2) sc_Table_brought_up_to.nd rfl (Or.inl rfl)) (pgs_cons (pg_name (i := 3) sc_Table_brought_up_to.nd rfl (Or.inl rfl)) pgs_nil)))) (fun _ _ _ _ _ => (pts_one (pt_cmpR op_le (pv 2) (pv 1) (nomark _)))) (fun _ _ _ _ _ => (pv 3))) pa_nil)))), ?_⟩
  refine ⟨_, rfl, r.a, A.C_Table, dx, _, _, rfl, ho, T.cl_Table, T.n_Table_deliveries, tf_deliveries, r.ld, rfl, ⟨_, SqL.of hd⟩, fun L hL => lc_list (K := K) (a := r.ld) (xs := ad.map V.ref)
    (fun i H' => Same H H' ∧ H' L = some (.lst ((cupsTo x t i).map V.int))) ⟨same_new hL _, upd_same⟩ (fun i H' _ ⟨s5, _⟩ => SqL.of (s5 _ _ hd)) ?_ ?_⟩
  · rintro i y H' hi ⟨s5, hl⟩
    obtain ⟨b, hb, rfl⟩ := map_at hi
    obtain ⟨p, hpi, hpb⟩ := Paired.get pd hb
    have hlen : ((cupsTo x t i).map V.int).length < sizeLine := by
      rw [List.length_map]
      exact small400 (Nat.le_trans (cupsTo_len x t i) (by have := g.brought; omega))
    refine ⟨b, _, rfl, SqT.of (s5 _ _ hpb), rfl, _, _, rfl, _, _, rfl, rfl, rfl, _, rfl, _, rfl, _, _, rfl, rfl, _, rfl, ?_⟩
    refine ite2 (fun h1 => ?_) (fun h1 => ?_)
    · refine ⟨_, rfl, _, hl, hlen, same_put s5 hL _, ?_⟩
      rw [upd_same, cupsTo_yes hpi (by have := of_decide_eq_true h1; omega), List.map_append]
      rfl
    · refine ⟨s5, ?_⟩
      rw [cupsTo_no hpi (fun z => h1 (decide_eq_true (by omega))), hl]
  · rintro H' ⟨s5, hl⟩
    refine ⟨L, _, rfl, SqL.of hl, ?_⟩
    have e : (cupsTo x t (ad.map V.ref).length).sum = ((upTo x.comes t : Nat) : Int) := by
      rw [CupMath.upTo_comes_int, List.length_map, Paired.len pd]
      unfold cupsTo
      rw [List.take_length]
    rw [e]
    exact k H' s5
/-! ### Table.there_behind, Table.lacking_behind -/
def thereI (x : Table) (t : Nat) : Int := ((x.stock + upTo x.comes t : Nat) : Int) - ((upTo x.wants t : Nat) : Int)
theorem sc_Table_there_behind : FnScope ["self", "minute"] ["self", "minute"] (defScope s_Table_there_behind) := ⟨rfl, rfl, rfl, by decide +kernel, rfl, by decide +kernel, by decide +kernel⟩
theorem ok_Table_there_behind (T : Txt K mg A) : FnOk P w K mg base CX0 2 A.f_Table_there_behind A.d_Table_there_behind ["self", "minute"] (spRead A.C_Table (fun _ _ => True) thereI) := by
  refine T.F_Table_there_behind.ok sc_Table_there_behind spRead_len fun cdv A' outer s H vs Q E hr h => ?_
  obtain ⟨r, x, t, rfl, B, _, k⟩ := h
  obtain ⟨⟨dx, ho⟩, _, _, g⟩ := id B
  refine ⟨_, (pss_one (ps_ret (pe_op op_sub (pe_op op_add (pe_fld (pv 0) rfl) (pe_meth (pv 0) T.cl_Table T.m_Table_brought_up_to (ok_Table_brought_up_to T) (hr.mono (by decide)) T.b_Table_brought_up_to .nil pass0 (pa_cons (pv 1) pa_nil))) (pe_meth (pv 0) T.cl_Table T.m_Table_wanted_up_to (ok_Table_wanted_up_to T) (hr.mono (by decide)) T.b_Table_wanted_up_to .nil pass0 (pa_cons (pv 1) pa_nil))))), ?_⟩
  refine ⟨_, rfl, r.a, A.C_Table, dx, _, _, rfl, ho, T.cl_Table, T.n_Table_stock, tf_stock, _, rfl, r.a, dx, _, rfl, ho, rfl, _, rfl, r, x, t, rfl, B, trivial, fun H1 s1 => ?_⟩
  refine ⟨_, _, rfl, rfl, _, rfl, r.a, dx, _, rfl, s1 _ _ ho, rfl, _, rfl, r, x, t, rfl, B.same s1, trivial, fun H2 s2 => ?_⟩
  refine ⟨_, _, rfl, rfl, ?_⟩
  have e : (x.stock : Int) + ((upTo x.comes t : Nat) : Int) - ((upTo x.wants t : Nat) : Int) = thereI x t := by
    unfold thereI
    omega
  show Q (V.int (_ - _)) H2
  rw [e]
  exact k H2 (s1.trans s2)
def lackN (x : Table) (t : Nat) : Nat := upTo x.wants t - upTo x.comes t
theorem sc_Table_lacking_behind : FnScope ["self", "minute"] ["self", "minute"] (defScope s_Table_lacking_behind) := ⟨rfl, rfl, rfl, by decide +kernel, rfl, by decide +kernel, by decide +kernel⟩
theorem ok_Table_lacking_behind (T : Txt K mg A) : FnOk P w K mg base CX0 2 A.f_Table_lacking_behind A.d_Table_lacking_behind ["self", "minute"] (spRead A.C_Table (fun _ _ => True) fun x t => (lackN x t : Int)) := by
  refine T.F_Table_lacking_behind.ok sc_Table_lacking_behind spRead_len fun cdv A' outer s H vs Q E hr h => ?_
  obtain ⟨r, x, t, rfl, B, _, k⟩ := h
  obtain ⟨⟨dx, ho⟩, _, _, g⟩ := id B
  refine ⟨_, (pss_one (ps_ret (pe_callB (call_max2 rfl) rfl T.z_max boot_max (pa_cons pe_int (pa_cons (pe_op op_sub (pe_meth (pv 0) T.cl_Table T.m_Table_wanted_up_to (ok_Table_wanted_up_to T) (hr.mono (by decide)) T.b_Table_wanted_up_to .nil pass0 (pa_cons (pv 1) pa_nil)) (pe_meth (pv 0) T.cl_Table T.m_Table_brought_up_to (ok_Table_brought_up_to T) (hr.mono (by decide)) T.b_Table_brought_up_to .nil pass0 (pa_cons (pv 1) pa_nil))) pa_nil))))), ?_⟩
  refine ⟨_, rfl, r.a, dx, _, rfl, ho, rfl, _, rfl, r, x, t, rfl, B, trivial, fun H1 s1 => ?_⟩
  refine ⟨_, rfl, r.a, dx, _, rfl, s1 _ _ ho, rfl, _, rfl, r, x, t, rfl, B.same s1, trivial, fun H2 s2 => ?_⟩
  refine ⟨_, _, rfl, rfl, _, _, rfl, ?_⟩
  have e : (if ((upTo x.wants t : Nat) : Int) - ((upTo x.comes t : Nat) : Int) > 0 then ((upTo x.wants t : Nat) : Int) - ((upTo x.comes t : Nat) : Int) else 0) = (lackN x t : Int) := by
    unfold lackN
    split <;> omega
  show Q (V.int (if _ then _ else _)) H2
  rw [e]
  exact k H2 (s1.trans s2)
/-! ### Table.least_needed -/
theorem range_snoc {α : Type} (f : Nat → α) (i : Nat) : (List.range (i + 1)).map f = (List.range i).map f ++ [f i] := by
  rw [List.range_succ, List.map_append]
  rfl
theorem len_range {α β : Type} (f : Nat → α) (g : α → β) (i : Nat) : (((List.range i).map f).map g).length = i := by simp
theorem sc_Table_least_needed : FnScope ["self", "minutes", "minute"] ["self", "minutes"] (defScope s_Table_least_needed) := ⟨rfl, rfl, rfl, by decide +kernel, rfl, by decide +kernel, by decide +kernel⟩
theorem ok_Table_least_needed (T : Txt K mg A) : FnOk P w K mg base CX0 3 A.f_Table_least_needed A.d_Table_least_needed ["self", "minutes"] (spRead A.C_Table (fun _ d => 1 ≤ d ∧ d ≤ 400) fun x d => ((Kh342.least d x : Nat) : Int)) := by
  refine T.F_Table_least_needed.ok sc_Table_least_needed spRead_len fun cdv A' outer s H vs Q E hr h => ?_
  obtain ⟨r, x, d, rfl, B, ⟨hd1, hd2⟩, k⟩ := h
  obtain ⟨⟨dx, ho⟩, _, _, g⟩ := id B
  refine ⟨_, (pss_one (ps_ret (pe_callB (cr_max rfl) rfl T.z_max boot_max (pa_cons (pe_lc (own := [("minute", 2)])  rfl sc_Table_least_needed.nd (pi_range1 rfl T.z_range (pa_cons (pv 1) pa_nil)) (blkOk_by (by rfl)) (fun _ _ _ _ _ => (pg_name (i := 2) sc_Table_least_needed.nd rfl (Or.inl rfl))) (fun _ _ _ _ _ => pts_nil) (fun _ _ _ _ _ => (pe_meth (pv 0) T.cl_Table T.m_Table_lacking_behind (ok_Table_lacking_behind T) (hr.mono (by decide)) T.b_Table_lacking_behind .nil pass0 (pa_cons (pv 2) pa_nil)))) pa_nil)))), ?_⟩
  refine ⟨_, rfl, _, rfl, by omega, by omega, fun L hL => lc_range (lo := 0) (n := d) (fun i H' => Same H H' ∧ H' L = some (.lst (((List.range i).map fun t => (lackN x t : Int)).map V.int))) ⟨same_new hL _, upd_same⟩ ?_ ?_⟩
  · rintro i H' hi ⟨s5, hl⟩
    refine ⟨rfl, ?_⟩
    refine ⟨_, rfl, r.a, dx, _, rfl, s5 _ _ ho, rfl, _, rfl, r, x, i, (by show [V.ref r.a, V.int (0 + (i : Int))] = _; rw [Int.zero_add]), B.same s5, trivial, fun H2 s2 => ?_⟩
    refine ⟨_, s2 _ _ hl, by rw [len_range]; exact small400 (by omega), same_put (s5.trans s2) hL _, ?_⟩
    rw [upd_same, range_snoc, List.map_append]
    rfl
  · rintro H' ⟨s5, hl⟩
    refine ⟨L, _, rfl, SqL.of hl, by simp; omega, fun m hm hy => ?_⟩
    obtain ⟨t, ht, rfl⟩ := List.mem_map.mp hm
    have e : Kh342.least d x = lackN x t := CupMath.least_eq (List.mem_range.mp ht) rfl fun s hs => by
      have := hy _ (List.mem_map.mpr ⟨s, List.mem_range.mpr hs, rfl⟩)
      unfold lackN at this ⊢
      omega
    show Q (V.int _) H'
    rw [← e]
    exact k H' s5
/-! ### Table.first_too_few -/
def shortTo (x : Table) (i : Nat) : List Int := ((List.range i).filter fun t => decide (thereI x t < 0)).map fun t : Nat => (t : Int)
theorem shortTo_yes {x : Table} {i : Nat} (h : thereI x i < 0) : shortTo x (i + 1) = shortTo x i ++ [(i : Int)] := by
  unfold shortTo
  rw [List.range_succ, List.filter_append, List.filter_cons, if_pos (decide_eq_true h), List.map_append]
  rfl
theorem shortTo_no {x : Table} {i : Nat} (h : ¬ thereI x i < 0) : shortTo x (i + 1) = shortTo x i := by
  unfold shortTo
  rw [List.range_succ, List.filter_append, List.filter_cons, if_neg (by rw [decide_eq_false h]; decide), List.filter_nil, List.append_nil]
theorem shortTo_len (x : Table) (i : Nat) : (shortTo x i).length ≤ i := by
  unfold shortTo
  rw [List.length_map]
  exact Nat.le_trans (List.length_filter_le _ _) (by rw [List.length_range]; exact Nat.le_refl _)
theorem shortTo_mem {x : Table} {i : Nat} {m : Int} : m ∈ shortTo x i ↔ ∃ t : Nat, m = (t : Int) ∧ t < i ∧ thereI x t < 0 := by
  unfold shortTo
  constructor
  · intro h
    obtain ⟨t, ht, rfl⟩ := List.mem_map.mp h
    obtain ⟨h1, h2⟩ := List.mem_filter.mp ht
    exact ⟨t, rfl, List.mem_range.mp h1, of_decide_eq_true h2⟩
  · rintro ⟨t, rfl, h1, h2⟩
    exact List.mem_map.mpr ⟨t, List.mem_filter.mpr ⟨List.mem_range.mpr h1, decide_eq_true h2⟩, rfl⟩
theorem sc_Table_first_too_few : FnScope ["self", "minutes", "minute"] ["self", "minutes"] (defScope s_Table_first_too_few) := ⟨rfl, rfl, rfl, by decide +kernel, rfl, by decide +kernel, by decide +kernel⟩
theorem ok_Table_first_too_few (T : Txt K mg A) : FnOk P w K mg base CX0 3 A.f_Table_first_too_few A.d_Table_first_too_few ["self", "minutes"] (spRead A.C_Table (fun x d => d ≤ 400 ∧ x.stock < Kh342.least d x) fun x d => (((Kh342.firstShort d x).getD 0 : Nat) : Int)) := by
  refine T.F_Table_first_too_few.ok sc_Table_first_too_few spRead_len fun cdv A' outer s H vs Q E hr h => ?_
  obtain ⟨r, x, d, rfl, B, ⟨hd1, hd2⟩, k⟩ := h
  obtain ⟨⟨dx, ho⟩, _, _, g⟩ := id B
  refine ⟨_, (pss_one (ps_ret (pe_callB (cr_min rfl) rfl T.z_min boot_min (pa_cons (pe_lc (own := [("minute", 2)])  rfl sc_Table_first_too_few.nd (pi_range1 rfl T.z_range (pa_cons (pv 1) pa_nil)) (blkOk_by (by rfl)) (fun _ _ _ _ _ => (pg_name (i := 2) sc_Table_first_too_few.nd rfl (Or.inl rfl))) (fun _ _ _ _ _ => (pts_one (pt_cmpR op_lt (pe_meth (pv 0) T.cl_Table T.m_Table_there_behind (ok_Table_there_behind T) (hr.mono (by decide)) T.b_Table_there_behind .nil pass0 (pa_cons (pv 2) pa_nil)) pe_int (nomark _)))) (fun _ _ _ _ _ => (pv 2))) pa_nil)))), ?_⟩
  refine ⟨_, rfl, _, rfl, by omega, by omega, fun L hL => lc_range (lo := 0) (n := d) (fun i H' => Same H H' ∧ H' L = some (.lst ((shortTo x i).map V.int))) ⟨same_new hL _, upd_same⟩ ?_ ?_⟩
  · rintro i H' hi ⟨s5, hl⟩
    refine ⟨rfl, ?_⟩
    refine ⟨_, rfl, r.a, dx, _, rfl, s5 _ _ ho, rfl, _, rfl, r, x, i, (by show [V.ref r.a, V.int (0 + (i : Int))] = _; rw [Int.zero_add]), B.same s5, trivial, fun H2 s2 => ?_⟩
    refine ⟨_, _, rfl, rfl, _, rfl, ?_⟩
    refine ite2 (fun h1 => ?_) (fun h1 => ?_)
    · refine ⟨_, rfl, _, s2 _ _ hl, by rw [List.length_map]; exact small400 (Nat.le_trans (shortTo_len x i) (by omega)), same_put (s5.trans s2) hL _, ?_⟩
      rw [upd_same, shortTo_yes (of_decide_eq_true h1), List.map_append, Int.zero_add]
      rfl
    · refine ⟨s5.trans s2, ?_⟩
      rw [shortTo_no fun z => h1 (decide_eq_true z)]
      exact s2 _ _ hl
  · rintro H' ⟨s5, hl⟩
    have ne : 0 < (shortTo x d).length := by
      obtain ⟨t, ht⟩ : ∃ t, t ∈ shortTo x d := by
        apply Classical.byContradiction
        intro q
        have : Kh342.least d x ≤ x.stock := CupMath.least_le.mpr fun t ht => by
          apply Classical.byContradiction
          intro z
          exact q ⟨(t : Int), shortTo_mem.mpr ⟨t, rfl, ht, by unfold thereI; omega⟩⟩
        omega
      exact List.length_pos_of_mem ht
    refine ⟨L, _, rfl, SqL.of hl, ne, fun m hm hy => ?_⟩
    obtain ⟨t, rfl, h1, h2⟩ := shortTo_mem.mp hm
    have e : Kh342.firstShort d x = some t := CupMath.firstShort_some h1 (by unfold thereI at h2; omega) fun s hs => by
      apply Classical.byContradiction
      intro z
      have := hy _ (shortTo_mem.mpr ⟨s, rfl, by omega, by unfold thereI; omega⟩)
      omega
    have q := k H' s5
    show Q (V.int _) H'
    have e2 : (Kh342.firstShort d x).getD 0 = t := by rw [e]; rfl
    rw [← e2]
    exact q
/-! ### Table.most_wanted, Table.filled_up -/
theorem sc_Table_most_wanted : FnScope ["self", "minutes", "minute"] ["self", "minutes"] (defScope s_Table_most_wanted) := ⟨rfl, rfl, rfl, by decide +kernel, rfl, by decide +kernel, by decide +kernel⟩
theorem ok_Table_most_wanted (T : Txt K mg A) : FnOk P w K mg base CX0 2 A.f_Table_most_wanted A.d_Table_most_wanted ["self", "minutes"] (spRead A.C_Table (fun _ d => 1 ≤ d ∧ d ≤ 400) fun x d => ((CupMath.mostN d x : Nat) : Int)) := by
  refine T.F_Table_most_wanted.ok sc_Table_most_wanted spRead_len fun cdv A' outer s H vs Q E hr h => ?_
  obtain ⟨r, x, d, rfl, B, ⟨hd1, hd2⟩, k⟩ := h
  obtain ⟨⟨dx, ho⟩, _, _, g⟩ := id B
  refine ⟨_, (pss_one (ps_ret (pe_callB (cr_max rfl) rfl T.z_max boot_max (pa_cons (pe_lc (own := [("minute", 2)])  rfl sc_Table_most_wanted.nd (pi_range1 rfl T.z_range (pa_cons (pv 1) pa_nil)) (blkOk_by (by rfl)) (fun _ _ _ _ _ => (pg_name (i := 2) sc_Table_most_wanted.nd rfl (Or.inl rfl))) (fun _ _ _ _ _ => pts_nil) (fun _ _ _ _ _ => (pe_meth (pv 0) T.cl_Table T.m_Table_wanted_in (ok_Table_wanted_in T) (hr.mono (by decide)) T.b_Table_wanted_in .nil pass0 (pa_cons (pv 2) pa_nil)))) pa_nil)))), ?_⟩
  refine ⟨_, rfl, _, rfl, by omega, by omega, fun L hL => lc_range (lo := 0) (n := d) (fun i H' => Same H H' ∧ H' L = some (.lst (((List.range i).map fun t => (x.wants t : Int)).map V.int))) ⟨same_new hL _, upd_same⟩ ?_ ?_⟩
  · rintro i H' hi ⟨s5, hl⟩
    refine ⟨rfl, ?_⟩
    refine ⟨_, rfl, r.a, dx, _, rfl, s5 _ _ ho, rfl, _, rfl, r, x, i, (by show [V.ref r.a, V.int (0 + (i : Int))] = _; rw [Int.zero_add]), B.same s5, trivial, fun H2 s2 => ?_⟩
    refine ⟨_, s2 _ _ hl, by rw [len_range]; exact small400 (by omega), same_put (s5.trans s2) hL _, ?_⟩
    rw [upd_same, range_snoc, List.map_append]
    rfl
  · rintro H' ⟨s5, hl⟩
    refine ⟨L, _, rfl, SqL.of hl, by simp; omega, fun m hm hy => ?_⟩
    obtain ⟨t, ht, rfl⟩ := List.mem_map.mp hm
    have e : CupMath.mostN d x = x.wants t := CupMath.mostN_eq (List.mem_range.mp ht) fun s hs => by
      have := hy _ (List.mem_map.mpr ⟨s, List.mem_range.mpr hs, rfl⟩)
      omega
    show Q (V.int _) H'
    rw [← e]
    exact k H' s5
/-- the minutes in which the table is filled up, in a new list -/
def spFill (C : Addr) : Sp := fun vs H Q _ => ∃ (r : TR) (x : Table) (c d : Nat), vs = [.ref r.a, .int c, .int d] ∧ TblAt C H r x ∧ d ≤ 400 ∧ Kh342.canFill d x c = true ∧
  ∀ (H' : Hp) (p : Addr), Same H H' → H p = none → H' p = some (.lst ((Kh342.nums (Kh342.fills x c d 0 x.stock)).map V.int)) → (Kh342.fills x c d 0 x.stock).length ≤ 400 → Q (.ref p) H'
theorem nums_snoc (l : List Nat) (n : Nat) : (Kh342.nums (l ++ [n])).map V.int = (Kh342.nums l).map V.int ++ [V.int (n : Int)] := by
  unfold Kh342.nums
  rw [List.map_append, List.map_append]
  rfl
theorem nums_len (l : List Nat) : ((Kh342.nums l).map V.int).length = l.length := by
  unfold Kh342.nums
  rw [List.length_map, List.length_map]
theorem sc_Table_filled_up : FnScope ["self", "holds", "minutes", "filled", "cups", "minute", "wanted"] ["self", "holds", "minutes"] (defScope s_Table_filled_up) := ⟨rfl, rfl, rfl, by decide +kernel, rfl, by decide +kernel, by decide +kernel⟩
theorem ok_Table_filled_up (T : Txt K mg A) : FnOk P w K mg base CX0 2 A.f_Table_filled_up A.d_Table_filled_up ["self", "holds", "minutes"] (spFill A.C_Table) := by
  refine T.F_Table_filled_up.ok sc_Table_filled_up (fun vs H Q E h => ?_) fun cdv A' outer s H vs Q E hr h => ?_
  · obtain ⟨r, x, c, d, rfl, _⟩ := h
    rfl
  obtain ⟨r, x, c, d, rfl, B, hd, hc, k⟩ := h
  have hc := CupMath.canFill_iff.mp hc
  obtain ⟨⟨dx, ho⟩, _, _, g⟩ := id B
  refine ⟨_, (pss_cons (ps_set (i := 3) sc_Table_filled_up.nd rfl (Or.inl rfl) (pe_lst pa_nil))
      (pss_cons (ps_set (i := 4) sc_Table_filled_up.nd rfl (Or.inl rfl) (pe_fld (pv 0) rfl))
      (pss_cons (ps_for PassesOwn.never rfl (pi_range1 rfl T.z_range (pa_cons (pv 2) pa_nil)) (pg_name (i := 5) sc_Table_filled_up.nd rfl (Or.inl rfl))
        (pss_cons (ps_set (i := 6) sc_Table_filled_up.nd rfl (Or.inl rfl) (pe_meth (pv 0) T.cl_Table T.m_Table_wanted_in (ok_Table_wanted_in T) (hr.mono (by decide)) T.b_Table_wanted_in .nil pass0 (pa_cons (pv 5) pa_nil)))
        (pss_cons (ps_if (pt_cmpR op_lt (pv 4) (pv 6) (nomark _)) (pss_cons (ps_expr (pe_bm PySem.F.plainAttrs_list PySem.F.slot_list_append PySem.F.type_list_append mt_append (pv 3) (pa_cons (pv 5) pa_nil)))
          (pss_one (ps_set (i := 4) sc_Table_filled_up.nd rfl (Or.inl rfl) (pv 1)))) pss_nil)
        (pss_one (ps_aug (i := 4) sc_Table_filled_up.nd rfl (Or.inl rfl) (pv 6) ip_sub)))))
      (pss_one (ps_ret (pv 3)))))), ?_⟩
  refine ⟨Nat.zero_le _, fun L hL => ?_⟩
  have s0 : Same H (upd H L (.lst [])) := same_new hL _
  refine ⟨_, rfl, r.a, A.C_Table, dx, _, _, rfl, s0 _ _ ho, T.cl_Table, T.n_Table_stock, tf_stock, ?_⟩
  refine ⟨_, rfl, _, rfl, by omega, by omega, for_range (lo := 0) (n := d) (fun i σ H' => ∃ (done : List Nat) (c' : Nat) (v5 v6 : Option V), σ = [some (.ref r.a), some (.int c), some (.int d), some (.ref L), some (.int c'), v5, v6] ∧ Same H H' ∧ H' L = some (.lst ((Kh342.nums done).map V.int)) ∧
    Kh342.fills x c d 0 x.stock = done ++ Kh342.fills x c (d - i) i c' ∧ done.length ≤ i) ⟨[], x.stock, none, none, rfl, s0, upd_same, rfl, Nat.le_refl _⟩ ?_ ?_⟩
  · rintro i σ H' hi ⟨done, c', v5, v6, rfl, s5, hl, hf, hlen⟩
    obtain ⟨m, hm⟩ : ∃ m, d - i = m + 1 := ⟨d - i - 1, by omega⟩
    have hm2 : d - (i + 1) = m := by omega
    have hw := hc i hi
    refine ⟨_, rfl, r.a, dx, _, rfl, s5 _ _ ho, rfl, _, rfl, r, x, i, (by show [V.ref r.a, V.int (0 + (i : Int))] = _; rw [Int.zero_add]), B.same s5, trivial, fun H2 s2 => ?_⟩
    refine ⟨_, rfl, _, rfl, _, _, rfl, rfl, _, rfl, ?_⟩
    refine ite2 (fun h1 => ?_) (fun h1 => ?_)
    · have h1 : (c' : Int) < (x.wants i : Int) := of_decide_eq_true h1
      refine ⟨_, rfl, .inl ⟨rfl, _, SqL.of (s2 _ _ hl)⟩, _, rfl, L, _, _, rfl, rfl, s2 _ _ hl, (by rw [nums_len]; exact small400 (by omega)), ?_⟩
      refine ⟨_, rfl, _, rfl, _, rfl, _, _, rfl, rfl, ?_⟩
      have e : ((c - x.wants i : Nat) : Int) = (c : Int) - (x.wants i : Int) := by omega
      refine ⟨done ++ [i], c - x.wants i, some (.int (0 + (i : Int))), some (.int (x.wants i : Int)), by rw [e]; rfl, same_put (s5.trans s2) hL _, ?_, ?_, ?_⟩
      · rw [upd_same, nums_snoc, Int.zero_add]
      · rw [hf, hm, hm2, CupMath.fills_no (by omega), List.append_assoc]
        rfl
      · rw [List.length_append]
        show done.length + 1 ≤ i + 1
        omega
    · have h1 : ¬ (c' : Int) < (x.wants i : Int) := fun z => h1 (decide_eq_true z)
      refine ⟨_, rfl, _, rfl, _, _, rfl, rfl, ?_⟩
      have e : ((c' - x.wants i : Nat) : Int) = (c' : Int) - (x.wants i : Int) := by omega
      refine ⟨done, c' - x.wants i, some (.int (0 + (i : Int))), some (.int (x.wants i : Int)), by rw [e]; rfl, s5.trans s2, s2 _ _ hl, ?_, by omega⟩
      rw [hf, hm, hm2, CupMath.fills_yes (by omega)]
  · rintro σ H' ⟨done, c', v5, v6, rfl, s5, hl, hf, hlen⟩
    rw [Nat.sub_self, CupMath.fills_zero, List.append_nil] at hf
    rw [hf] at k
    exact ⟨_, rfl, k H' L s5 hL hl (by omega)⟩
/-! ### Table(..), Day() -/
def spTInit (C : Addr) : Sp := fun vs H Q _ => ∃ (p dx : Addr) (t n : Int), vs = [.ref p, .int t, .int n] ∧ H p = some (.ins C dx []) ∧
  ∀ (H' : Hp) (lp ld : Addr), H' p = some (.ins C dx (tf t n lp ld)) → H' lp = some (.lst []) → H' ld = some (.lst []) → H lp = none → H ld = none → lp ≠ ld → (∀ b o, H b = some o → b ≠ p → H' b = some o) → Q .non H'
theorem sc_Table_init : FnScope ["self", "takes", "stock"] ["self", "takes", "stock"] (defScope s_Table_init) := ⟨rfl, rfl, rfl, by decide +kernel, rfl, by decide +kernel, by decide +kernel⟩
theorem ok_Table_init (T : Txt K mg A) : FnOk P w K mg base CX0 1 A.f_Table_init A.d_Table_init ["self", "takes", "stock"] (spTInit A.C_Table) := by
  refine T.F_Table_init.ok sc_Table_init (fun vs H Q E h => ?_) fun cdv A' outer s H vs Q E hr h => ?_
  · obtain ⟨p, dx, t, n, rfl, _⟩ := h
    rfl
  obtain ⟨p, dx, t, n, rfl, hp, k⟩ := h
  refine ⟨_, (pss_cons (ps_fld (pv 0) (pv 1) rfl)
      (pss_cons (ps_fld (pv 0) (pv 2) rfl)
      (pss_cons (ps_fld (pv 0) (pe_lst pa_nil) rfl)
      (pss_one (ps_fld (pv 0) (pe_lst pa_nil) rfl))))), ?_⟩
  refine ⟨_, rfl, _, rfl, p, A.C_Table, dx, _, rfl, hp, T.cl_Table, T.n_Table_takes, (by decide), ?_⟩
  refine ⟨_, rfl, _, rfl, p, A.C_Table, dx, _, rfl, upd_same, T.cl_Table, T.n_Table_stock, (by show 1 < 1000; decide), ?_⟩
  refine ⟨Nat.zero_le _, fun lp hlp => ?_⟩
  have n1 : lp ≠ p := fun z => by rw [z, upd_same] at hlp; cases hlp
  refine ⟨_, rfl, p, A.C_Table, dx, _, rfl, (by rw [upd_ne n1.symm]; exact upd_same), T.cl_Table, T.n_Table_passes, (by show 2 < 1000; decide), ?_⟩
  refine ⟨Nat.zero_le _, fun ld hld => ?_⟩
  have n2 : ld ≠ p := fun z => by rw [z, upd_same] at hld; cases hld
  rw [upd_ne n2] at hld
  have n3 : ld ≠ lp := fun z => by rw [z, upd_same] at hld; cases hld
  refine ⟨_, rfl, p, A.C_Table, dx, _, rfl, (by rw [upd_ne n2.symm]; exact upd_same), T.cl_Table, T.n_Table_deliveries, (by show 3 < 1000; decide), ?_⟩
  refine k _ lp ld ?_ ?_ ?_ ?_ ?_ n3.symm ?_
  · rw [upd_same]
    exact congrArg (fun q => some (HO.ins A.C_Table dx q)) (tf_init (t := t) (s := n) (lp := lp) (ld := ld))
  · rw [upd_ne n1, upd_ne n3.symm, upd_ne n1, upd_same]
  · rw [upd_ne n2, upd_same]
  · rw [upd_ne n1, upd_ne n1] at hlp
    exact hlp
  · rw [upd_ne n3, upd_ne n2, upd_ne n2] at hld
    exact hld
  · intro b o e hb
    have e1 : b ≠ lp := fun z => by
      rw [upd_ne n1, upd_ne n1, ← z, e] at hlp
      cases hlp
    have e2 : b ≠ ld := fun z => by
      rw [upd_ne n3, upd_ne n2, upd_ne n2, ← z, e] at hld
      cases hld
    rw [upd_ne hb, upd_ne e2, upd_ne hb, upd_ne e1, upd_ne hb, upd_ne hb]
    exact e
def spDInit (C : Addr) : Sp := fun vs H Q _ => ∃ (p dx : Addr), vs = [.ref p] ∧ H p = some (.ins C dx []) ∧
  ∀ (H' : Hp) (lt : Addr), H' p = some (.ins C dx (df 0 lt)) → H' lt = some (.lst []) → H lt = none → (∀ b o, H b = some o → b ≠ p → H' b = some o) → Q .non H'
theorem sc_Day_init : FnScope ["self"] ["self"] (defScope s_Day_init) := ⟨rfl, rfl, rfl, by decide +kernel, rfl, by decide +kernel, by decide +kernel⟩
theorem ok_Day_init (T : Txt K mg A) : FnOk P w K mg base CX0 1 A.f_Day_init A.d_Day_init ["self"] (spDInit A.C_Day) := by
  refine T.F_Day_init.ok sc_Day_init (fun vs H Q E h => ?_) fun cdv A' outer s H vs Q E hr h => ?_
  · obtain ⟨p, dx, rfl, _⟩ := h
    rfl
  obtain ⟨p, dx, rfl, hp, k⟩ := h
  refine ⟨_, (pss_cons (ps_fld (pv 0) pe_int rfl)
      (pss_one (ps_fld (pv 0) (pe_lst pa_nil) rfl))), ?_⟩
  refine ⟨_, rfl, p, A.C_Day, dx, _, rfl, hp, T.cl_Day, T.n_Day_minutes, (by decide), ?_⟩
  refine ⟨Nat.zero_le _, fun lt hlt => ?_⟩
  have n1 : lt ≠ p := fun z => by rw [z, upd_same] at hlt; cases hlt
  refine ⟨_, rfl, p, A.C_Day, dx, _, rfl, (by rw [upd_ne n1.symm]; exact upd_same), T.cl_Day, T.n_Day_tables, (by show 1 < 1000; decide), ?_⟩
  rw [upd_ne n1] at hlt
  refine k _ lt ?_ ?_ hlt ?_
  · rw [upd_same]
    exact congrArg (fun q => some (HO.ins A.C_Day dx q)) (df_init (m := 0) (lt := lt))
  · rw [upd_ne n1, upd_same]
  · intro b o e hb
    have e1 : b ≠ lt := fun z => by
      rw [← z, e] at hlt
      cases hlt
    rw [upd_ne hb, upd_ne e1, upd_ne hb]
    exact e
end
end Cup
end

section
set_option Elab.async false
set_option linter.all false
set_option maxRecDepth 100000
set_option maxHeartbeats 4000000
/-! A day's objects when one of them changes. -/
namespace Cup
open PySem PySem.Spec PyProof.Rows L2
open Kh342 (Pass Table Abs upTo)
theorem Paired.of {α β : Type} {R : α → β → Prop} : ∀ {xs : List α} {ys : List β}, xs.length = ys.length → (∀ (i : Nat) (a : α) (b : β), xs[i]? = some a → ys[i]? = some b → R a b) → Paired R xs ys
  | [], [], _, _ => .nil
  | [], _ :: _, h, _ => by simp at h
  | _ :: _, [], h, _ => by simp at h
  | a :: xs, b :: ys, h, q => .cons (q 0 a b rfl rfl) (Paired.of (by simpa using h) fun i a' b' h1 h2 => q (i + 1) a' b' h1 h2)
abbrev parts (r : TR) : List Addr := [r.a, r.lp, r.ld]
theorem DR.foot_eq (D : DR) : D.foot = D.d :: D.lt :: D.rs.flatMap parts := rfl
theorem in_foot {D : DR} {j : Nat} {r : TR} (h : D.rs[j]? = some r) {u : Addr} (hu : u ∈ parts r) : u ∈ D.foot :=
  List.mem_cons_of_mem _ (List.mem_cons_of_mem _ (List.mem_flatMap.mpr ⟨r, List.mem_of_getElem? h, hu⟩))
theorem foot_d {D : DR} : D.d ∈ D.foot := List.mem_cons_self
theorem foot_lt {D : DR} : D.lt ∈ D.foot := List.mem_cons_of_mem _ List.mem_cons_self
theorem foot_cases {D : DR} {b : Addr} (h : b ∈ D.foot) : b = D.d ∨ b = D.lt ∨ ∃ r ∈ D.rs, b ∈ parts r := by
  rcases List.mem_cons.mp h with h | h
  · exact .inl h
  rcases List.mem_cons.mp h with h | h
  · exact .inr (.inl h)
  · obtain ⟨r, h1, h2⟩ := List.mem_flatMap.mp h
    exact .inr (.inr ⟨r, h1, h2⟩)
theorem nd_parts {D : DR} (h : D.foot.Nodup) {j : Nat} {r : TR} (hr : D.rs[j]? = some r) : (parts r).Nodup := by
  have h2 := (List.nodup_cons.mp (List.nodup_cons.mp h).2).2
  exact (List.pairwise_flatMap.mp h2).1 r (List.mem_of_getElem? hr)
theorem nd_apart {D : DR} (h : D.foot.Nodup) {i j : Nat} {r q : TR} (hr : D.rs[i]? = some r) (hq : D.rs[j]? = some q) (hij : i ≠ j) {u v : Addr} (hu : u ∈ parts r) (hv : v ∈ parts q) : u ≠ v := by
  have h2 := (List.pairwise_flatMap.mp (List.nodup_cons.mp (List.nodup_cons.mp h).2).2).2
  obtain ⟨i1, e1⟩ := List.getElem?_eq_some_iff.mp hr
  obtain ⟨j1, e2⟩ := List.getElem?_eq_some_iff.mp hq
  rw [List.pairwise_iff_getElem] at h2
  rcases Nat.lt_or_gt_of_ne hij with l | l
  · exact h2 i j i1 j1 l u (by rw [e1]; exact hu) v (by rw [e2]; exact hv)
  · exact (h2 j i j1 i1 l v (by rw [e2]; exact hv) u (by rw [e1]; exact hu)).symm
theorem nd_d {D : DR} (h : D.foot.Nodup) {j : Nat} {r : TR} (hr : D.rs[j]? = some r) {u : Addr} (hu : u ∈ parts r) : D.d ≠ u := fun z =>
  (List.nodup_cons.mp h).1 (z ▸ List.mem_cons_of_mem _ (List.mem_flatMap.mpr ⟨r, List.mem_of_getElem? hr, hu⟩))
theorem nd_lt {D : DR} (h : D.foot.Nodup) {j : Nat} {r : TR} (hr : D.rs[j]? = some r) {u : Addr} (hu : u ∈ parts r) : D.lt ≠ u := fun z =>
  (List.nodup_cons.mp (List.nodup_cons.mp h).2).1 (z ▸ List.mem_flatMap.mpr ⟨r, List.mem_of_getElem? hr, hu⟩)
theorem nd_dl {D : DR} (h : D.foot.Nodup) : D.d ≠ D.lt := fun z => (List.nodup_cons.mp h).1 (z ▸ List.mem_cons_self)
/-- whatever stands at a part of a table is an instance or a list -/
def notTup : HO → Prop
  | .tup _ => False
  | _ => True
theorem TblAt.part {C : Addr} {H : Hp} {r : TR} {x : Table} (h : TblAt C H r x) {u : Addr} (hu : u ∈ parts r) : ∃ o, H u = some o ∧ notTup o := by
  obtain ⟨⟨dx, o⟩, ⟨ap, p1, _⟩, ⟨ad, d1, _⟩, _⟩ := h
  rcases List.mem_cons.mp hu with e | hu
  · subst e; exact ⟨_, o, trivial⟩
  rcases List.mem_cons.mp hu with e | hu
  · subst e; exact ⟨_, p1, trivial⟩
  · have e := List.mem_singleton.mp hu
    subst e; exact ⟨_, d1, trivial⟩
theorem ne_tup {H : Hp} {u b : Addr} {o : HO} {xs : List V} (h : H u = some o) (n : notTup o) (hb : H b = some (.tup xs)) : b ≠ u := fun z => by
  rw [z, h] at hb
  cases hb
  exact n
/-- one part of one table has changed -/
theorem DayAt.step {A : Ad} {H H' : Hp} {D : DR} {a : Abs} {j : Nat} {r : TR} {x x' : Table} {z : Addr} (B : DayAt A H D (some a)) (hr : D.rs[j]? = some r) (hx : a.tables[j]? = some x) (hz : z ∈ parts r)
    (kp : ∀ b o, H b = some o → b ≠ z → H' b = some o) (hT : TblAt A.C_Table H' r x') (hlt : ∀ b ∈ x'.brought, b.1 < a.day) : DayAt A H' D (some { a with tables := a.tables.set j x' }) := by
  obtain ⟨⟨dx, ob⟩, ls, tb, nd, ok⟩ := B
  have len := Paired.len tb
  obtain ⟨x0, hx0, hT0⟩ := Paired.get tb hr
  obtain ⟨oz, hz1, hz2⟩ := hT0.part hz
  have kt : ∀ b xs, H b = some (.tup xs) → H' b = some (.tup xs) := fun b xs e => kp b _ e (ne_tup hz1 hz2 e)
  refine ⟨⟨dx, kp _ _ ob (nd_d nd hr hz)⟩, kp _ _ ls (nd_lt nd hr hz), Paired.of ?_ ?_, nd, ⟨fun a' e => ?_, ?_, fun y hy => ?_⟩⟩
  · show D.rs.length = (a.tables.set j x').length
    rw [List.length_set]
    exact len
  · intro i q y hq hy
    have hy : (a.tables.set j x')[i]? = some y := hy
    by_cases e : i = j
    · subst e
      have e1 : q = r := Option.some.inj (hq.symm.trans hr)
      subst e1
      have e2 : (a.tables.set i x')[i]? = some x' := List.getElem?_set_self (List.getElem?_eq_some_iff.mp hx).1
      have e3 : y = x' := Option.some.inj (hy.symm.trans e2)
      subst e3
      exact hT
    · rw [List.getElem?_set_ne (fun w => e w.symm)] at hy
      obtain ⟨y0, hy0, hTy⟩ := Paired.get tb hq
      have e3 : y = y0 := Option.some.inj (hy.symm.trans hy0)
      subst e3
      have ap : ∀ {u}, u ∈ parts q → u ≠ z := fun hu => nd_apart nd hq hr e hu hz
      exact hTy.keep (fun o h => kp _ _ h (ap (by simp))) (fun o h => kp _ _ h (ap (by simp))) (fun o h => kp _ _ h (ap (by simp))) kt
  · cases e
    exact ok.day a rfl
  · show (a.tables.set j x').length ≤ 5
    rw [List.length_set]
    exact ok.few
  · rcases List.mem_or_eq_of_mem_set hy with h | h
    · exact ok.late y h
    · subst h; exact hlt
/-- one more table -/
theorem DayAt.grow {A : Ad} {H H' : Hp} {D : DR} {a : Abs} {r : TR} {x : Table} (B : DayAt A H D (some a)) (few : a.tables.length < 5) (kp : ∀ b o, H b = some o → b ≠ D.lt → H' b = some o)
    (hl : H' D.lt = some (.lst ((D.rs.map fun r => V.ref r.a) ++ [V.ref r.a]))) (hT : TblAt A.C_Table H' r x) (hn : (parts r).Nodup) (hf : ∀ u ∈ parts r, H u = none) (hb : x.brought = []) :
    DayAt A H' ⟨D.d, D.lt, D.rs ++ [r]⟩ (some { a with tables := a.tables ++ [x] }) := by
  obtain ⟨⟨dx, ob⟩, ls, tb, nd, ok⟩ := B
  have kt : ∀ b xs, H b = some (.tup xs) → H' b = some (.tup xs) := fun b xs e => kp b _ e (ne_tup ls trivial e)
  have all : ∀ b ∈ D.foot, ∃ o, H b = some o := fun b hb => by
    rcases foot_cases hb with e | e | ⟨q, hq, hb⟩
    · exact ⟨_, e ▸ ob⟩
    · exact ⟨_, e ▸ ls⟩
    · obtain ⟨i, hi⟩ := List.getElem?_of_mem hq
      obtain ⟨y, _, hy⟩ := Paired.get tb hi
      obtain ⟨o, ho, _⟩ := hy.part hb
      exact ⟨o, ho⟩
  refine ⟨⟨dx, kp _ _ ob (nd_dl (D := D) nd)⟩, ?_, ?_, ?_, ⟨fun a' e => ?_, ?_, fun y hy => ?_⟩⟩
  · show H' D.lt = some (.lst ((D.rs ++ [r]).map fun r => V.ref r.a))
    rw [hl, List.map_append]
    rfl
  · refine Paired.snoc' hT (Paired.of (Paired.len tb) fun i q y hq hy => ?_)
    obtain ⟨y0, hy0, hTy⟩ := Paired.get tb hq
    have e3 : y = y0 := Option.some.inj (hy.symm.trans hy0)
    subst e3
    have ap : ∀ {u}, u ∈ parts q → u ≠ D.lt := fun hu => (nd_lt nd hq hu).symm
    exact hTy.keep (fun o h => kp _ _ h (ap (by simp))) (fun o h => kp _ _ h (ap (by simp))) (fun o h => kp _ _ h (ap (by simp))) kt
  · have e : (DR.mk D.d D.lt (D.rs ++ [r])).foot = D.foot ++ parts r := by
      show D.d :: D.lt :: (D.rs ++ [r]).flatMap parts = (D.d :: D.lt :: D.rs.flatMap parts) ++ parts r
      rw [List.flatMap_append]
      simp [List.flatMap]
    rw [e]
    refine List.nodup_append.mpr ⟨nd, hn, fun u hu v hv z => ?_⟩
    obtain ⟨o, ho⟩ := all u hu
    rw [z, hf v hv] at ho
    cases ho
  · cases e
    exact ok.day a rfl
  · show (a.tables ++ [x]).length ≤ 5
    rw [List.length_append]
    exact few
  · rcases List.mem_append.mp hy with h | h
    · exact ok.late y h
    · rw [List.mem_singleton.mp h, hb]
      exact fun b hb => absurd hb (by simp)
theorem foot_all {A : Ad} {H : Hp} {D : DR} {s : Option Abs} (B : DayAt A H D s) : ∀ b ∈ D.foot, ∃ o, H b = some o ∧ notTup o := fun b hb => by
  rcases foot_cases hb with e | e | ⟨q, hq, hb⟩
  · obtain ⟨dx, ob⟩ := B.ob
    subst e; exact ⟨_, ob, trivial⟩
  · subst e; exact ⟨_, B.ls, trivial⟩
  · obtain ⟨i, hi⟩ := List.getElem?_of_mem hq
    obtain ⟨y, _, hy⟩ := Paired.get B.tb hi
    exact hy.part hb
/-- something outside of the day has changed -/
theorem DayAt.out {A : Ad} {H H' : Hp} {D : DR} {s : Option Abs} {z : Addr} (B : DayAt A H D s) (hz : z ∉ D.foot) (kp : ∀ b o, H b = some o → b ≠ z → H' b = some o) (kt : ∀ xs, H z ≠ some (.tup xs)) : DayAt A H' D s := by
  obtain ⟨⟨dx, ob⟩, ls, tb, nd, ok⟩ := B
  have nz : ∀ {u}, u ∈ D.foot → u ≠ z := fun hu e => hz (e ▸ hu)
  refine ⟨⟨dx, kp _ _ ob (nz foot_d)⟩, kp _ _ ls (nz foot_lt), Paired.of (Paired.len tb) fun i q y hq hy => ?_, nd, ok⟩
  obtain ⟨y0, hy0, hTy⟩ := Paired.get tb hq
  have e3 : y = y0 := Option.some.inj (hy.symm.trans hy0)
  subst e3
  exact hTy.keep (fun o h => kp _ _ h (nz (in_foot hq (by simp)))) (fun o h => kp _ _ h (nz (in_foot hq (by simp)))) (fun o h => kp _ _ h (nz (in_foot hq (by simp)))) fun b xs e => kp b _ e fun w => kt xs (w ▸ e)
end Cup
end

section
set_option Elab.async false
set_option linter.all false
set_option maxRecDepth 100000
set_option maxHeartbeats 4000000
/-! The calls on a day, and those on a table. -/
-- TUPLE take delivery
namespace Cup
open PySem PySem.Spec PyProof.Rows L2
open Kh342 (Pass Table Abs upTo doing)
def nv (l : List Nat) : List V := l.map fun n : Nat => V.int (n : Int)
/-- a call on the day -/
def spDay (A : Ad) (mk : Option Abs → List Nat → Kh342.Call → Prop) : Sp := fun vs H Q _ => ∃ (D : DR) (s : Option Abs) (ln : Addr) (args : List Nat) (c : Kh342.Call), vs = [.ref D.d, .ref ln] ∧ DayAt A H D s ∧ H ln = some (.lst (nv args)) ∧ mk s args c ∧
  Ret A H D (doing s c).1 (ansOf (doing s c)) Q
theorem spDay_len {A : Ad} {mk : Option Abs → List Nat → Kh342.Call → Prop} (vs : List V) (H : Hp) (Q : VK) (E : XK) (h : spDay A mk vs H Q E) : vs.length = 2 := by
  obtain ⟨D, s, ln, args, c, rfl, _⟩ := h
  rfl
/-- a call on a table of the day -/
def spTab (A : Ad) (mk : Nat → List Nat → Kh342.Call → Prop) : Sp := fun vs H Q _ => ∃ (D : DR) (a : Abs) (j : Nat) (r : TR) (x : Table) (ln : Addr) (args : List Nat) (c : Kh342.Call), vs = [.ref D.d, .ref r.a, .ref ln] ∧ DayAt A H D (some a) ∧ D.rs[j]? = some r ∧ a.tables[j]? = some x ∧
  H ln = some (.lst (nv args)) ∧ mk j args c ∧ Ret A H D (doing (some a) c).1 (ansOf (doing (some a) c)) Q
theorem spTab_len {A : Ad} {mk : Nat → List Nat → Kh342.Call → Prop} (vs : List V) (H : Hp) (Q : VK) (E : XK) (h : spTab A mk vs H Q E) : vs.length = 3 := by
  obtain ⟨D, a, j, r, x, ln, args, c, rfl, _⟩ := h
  rfl
/-- a refusal: one number in a new list -/
theorem refuse {A : Ad} {H : Hp} {D : DR} {s : Option Abs} {c : Kh342.Call} {Q : VK} {z : Int} (B : DayAt A H D s) (k : Ret A H D (doing s c).1 (ansOf (doing s c)) Q) (e : doing s c = (s, Kh342.say z)) :
    1 ≤ sizeLine ∧ ∀ p, H p = none → Q (.ref p) (upd H p (.lst [.int z])) := by
  rw [e] at k
  exact ⟨by decide, fun p hp => k.read B (Same.refl H) hp⟩
/-- an answer of a call that only reads -/
theorem reads {A : Ad} {H H' : Hp} {D : DR} {s : Option Abs} {c : Kh342.Call} {Q : VK} {z : Int} {l : List Int} (B : DayAt A H D s) (k : Ret A H D (doing s c).1 (ansOf (doing s c)) Q) (q : Same H H') (e : doing s c = (s, ⟨z, l⟩)) {p : Addr} (hp : H' p = none) :
    Q (.ref p) (upd H' p (.lst (.int z :: l.map V.int))) := by
  rw [e] at k
  exact k.read B q hp
section
variable {P : Program} {w : World} {K : PySem.W.Frag} {mg : Str → Option Value} {base : Heap} {A : Ad}
/-! ### begin -/
def mkBegin : Option Abs → List Nat → Kh342.Call → Prop := fun _ args c => ∃ m, args = [m] ∧ c = .begin_ m
theorem sc_begin : FnScope ["day", "numbers", "minutes"] ["day", "numbers"] (defScope s_begin) := ⟨rfl, rfl, rfl, by decide +kernel, rfl, by decide +kernel, by decide +kernel⟩
theorem ok_begin (T : Txt K mg A) : FnOk P w K mg base CX0 1 A.f_begin A.d_begin ["day", "numbers"] (spDay A mkBegin) := by
  refine T.F_begin.ok sc_begin spDay_len fun cdv A' outer s0 H vs Q E hr h => ?_
  obtain ⟨D, s, ln, args, c, rfl, B, hln, ⟨m, rfl, rfl⟩, k⟩ := h
  obtain ⟨dx, ob⟩ := B.ob
  refine ⟨_, (pss_cons (ps_set (i := 2) sc_begin.nd rfl (Or.inl rfl) (pe_ix ix_list (pv 1) pe_int (fun _ _ => rfl)))
      (pss_cons (ps_if (pt_not (pt_chain op_le op_le pe_int (pv 2) (pe_gint rfl T.c_MOST_MINUTES))) (pss_one (ps_ret (pe_lst (pa_cons (pe_gint rfl T.c_NOT_AS_TOLD) pa_nil)))) pss_nil)
      (pss_cons (ps_fld (pv 0) (pv 2) rfl)
      (pss_cons (ps_fld (pv 0) (pe_lst pa_nil) rfl)
      (pss_one (ps_ret (pe_lst (pa_cons pe_int pa_nil)))))))), ?_⟩
  refine ⟨_, rfl, ln, _, _, _, rfl, rfl, SqL.of hln, at_of (j := 0) rfl rfl, ?_⟩
  have no : ¬ (1 ≤ m ∧ m ≤ 400) → _ := fun hm => refuse (z := -22) B k (by rw [CupMath.do_begin, if_pos (by omega)])
  refine ⟨_, rfl, _, _, rfl, rfl, _, rfl, ?_⟩
  refine ite2 (fun h1 => ?_) (fun h1 => ⟨_, rfl, no fun z => h1 (decide_eq_true (by omega))⟩)
  have h1 := of_decide_eq_true h1
  refine ⟨_, _, rfl, rfl, _, rfl, ?_⟩
  by_cases hm : (m : Int) ≤ 400
  · rw [decide_eq_true hm]
    have e : doing s (.begin_ m) = (some (Kh342.begun m), Kh342.say 0) := by
      rw [CupMath.do_begin, if_neg (by omega)]
    rw [e] at k
    refine ⟨_, rfl, _, rfl, D.d, A.C_Day, dx, _, rfl, ob, T.cl_Day, T.n_Day_minutes, (by show 2 < 1000; decide), Nat.zero_le _, fun lt hlt => ?_⟩
    have n1 : lt ≠ D.d := fun z => by rw [z, upd_same] at hlt; cases hlt
    rw [upd_ne n1] at hlt
    refine ⟨_, rfl, D.d, A.C_Day, dx, _, rfl, (by rw [upd_ne n1.symm]; exact upd_same), T.cl_Day, T.n_Day_tables, (by show 2 < 1000; decide), (by show 1 ≤ sizeLine; decide), fun p hp => ?_⟩
    have n2 : p ≠ D.d := fun z => by rw [z, upd_same] at hp; cases hp
    rw [upd_ne n2] at hp
    have n3 : p ≠ lt := fun z => by rw [z, upd_same] at hp; cases hp
    rw [upd_ne n3, upd_ne n2] at hp
    refine k _ ⟨D.d, lt, []⟩ p ⟨⟨dx, ?_⟩, ?_, .nil, ?_, ⟨fun a e => ?_, Nat.zero_le _, fun x hx => absurd hx (List.not_mem_nil)⟩⟩ rfl hp upd_same ?_ ?_
    · show upd _ p _ D.d = _
      rw [upd_ne n2.symm, upd_same]
      exact congrArg (fun q => some (HO.ins A.C_Day dx q)) df_put
    · show upd _ p _ lt = _
      rw [upd_ne n3.symm, upd_ne n1, upd_same]
      rfl
    · show [D.d, lt].Nodup
      simp [n1.symm]
    · cases e
      show 1 ≤ m ∧ m ≤ 400
      omega
    · intro b o e hb
      have h1 : b ≠ D.d := fun z => hb (z ▸ foot_d)
      rw [upd_ne (ne_of_none e hp), upd_ne h1, upd_ne (ne_of_none e hlt), upd_ne h1]
      exact e
    · intro b hb
      rcases List.mem_cons.mp hb with z | hb
      · exact .inl (z ▸ foot_d)
      · rcases List.mem_cons.mp hb with z | hb
        · exact .inr (z ▸ hlt)
        · exact absurd hb (by simp)
  · rw [decide_eq_false hm]
    exact no (by omega)
/-! ### table -/
def mkTable : Option Abs → List Nat → Kh342.Call → Prop := fun s args c => ∃ a x n, s = some a ∧ args = [x, n] ∧ c = .table x n
theorem sc_add_table : FnScope ["day", "numbers", "takes", "stock"] ["day", "numbers"] (defScope s_add_table) := ⟨rfl, rfl, rfl, by decide +kernel, rfl, by decide +kernel, by decide +kernel⟩
theorem ok_add_table (T : Txt K mg A) : FnOk P w K mg base CX0 3 A.f_add_table A.d_add_table ["day", "numbers"] (spDay A mkTable) := by
  refine T.F_add_table.ok sc_add_table spDay_len fun cdv A' outer s0 H vs Q E hr h => ?_
  obtain ⟨D, s, ln, args, c, rfl, B, hln, ⟨a, x, n, rfl, rfl, rfl⟩, k⟩ := h
  obtain ⟨dx, ob⟩ := B.ob
  have ls := B.ls
  have len : D.rs.length = a.tables.length := Paired.len B.tb
  refine ⟨_, (pss_cons (ps_set (i := 2) sc_add_table.nd rfl (Or.inl rfl) (pe_ix ix_list (pv 1) pe_int (fun _ _ => rfl)))
      (pss_cons (ps_set (i := 3) sc_add_table.nd rfl (Or.inl rfl) (pe_ix ix_list (pv 1) pe_int (fun _ _ => rfl)))
      (pss_cons (ps_if (PW.pt (pw_or (pt_not (pt_chain op_le op_le pe_int (pv 2) (pe_gint rfl T.c_MOST_TAKEN))) (pw_or1 (pt_cmpR op_gt (pv 3) (pe_gint rfl T.c_MOST_CUPS) (nomark _))))) (pss_one (ps_ret (pe_lst (pa_cons (pe_gint rfl T.c_NOT_AS_TOLD) pa_nil)))) pss_nil)
      (pss_cons (ps_if (pt_cmpR op_eq (pe_callB call_len_seq rfl T.z_len boot_len (pa_cons (pe_fld (pv 0) rfl) pa_nil)) (pe_gint rfl T.c_MOST_TABLES) (nomark _)) (pss_one (ps_ret (pe_lst (pa_cons (pe_gint rfl T.c_FULL) pa_nil)))) pss_nil)
      (pss_cons (ps_expr (pe_bm PySem.F.plainAttrs_list PySem.F.slot_list_append PySem.F.type_list_append mt_append (pe_fld (pv 0) rfl) (pa_cons (pe_make T.k_Table (ok_Table_init T) (hr.mono (by decide)) rfl T.g_Table T.b_Table_init .nil pass0 (pa_cons (pv 2) (pa_cons (pv 3) pa_nil))) pa_nil)))
      (pss_one (ps_ret (pe_lst (pa_cons (pe_op op_sub (pe_callB call_len_seq rfl T.z_len boot_len (pa_cons (pe_fld (pv 0) rfl) pa_nil)) pe_int) pa_nil))))))))), ?_⟩
  refine ⟨_, rfl, ln, _, _, _, rfl, rfl, SqL.of hln, at_of (j := 0) rfl rfl, ?_⟩
  refine ⟨_, rfl, ln, _, _, _, rfl, rfl, SqL.of hln, at_of (j := 1) rfl rfl, ?_⟩
  have no : ¬ (1 ≤ x ∧ x ≤ 9 ∧ n ≤ 100000) → _ := fun hm => refuse (z := -22) B k (by rw [CupMath.do_table, if_pos (by unfold Kh342.MOST; omega)])
  refine ⟨_, rfl, _, _, rfl, rfl, _, rfl, ?_⟩
  refine ite2 (fun h1 => ?_) (fun h1 => ⟨_, rfl, no fun z => h1 (decide_eq_true (by omega))⟩)
  have h1 := of_decide_eq_true h1
  refine ⟨_, _, rfl, rfl, _, rfl, ?_⟩
  by_cases h2 : (x : Int) ≤ 9
  case neg =>
    rw [decide_eq_false h2]
    exact no (by omega)
  rw [decide_eq_true h2]
  refine ⟨_, rfl, _, _, rfl, rfl, _, rfl, ?_⟩
  refine ite2 (fun h3 => no (by have := of_decide_eq_true h3; omega)) (fun h3 => ?_)
  have h3 : n ≤ 100000 := by
    apply Classical.byContradiction
    intro z
    exact h3 (decide_eq_true (by omega))
  -- if len(day.tables) == MOST_TABLES
  refine ⟨_, rfl, D.d, A.C_Day, dx, _, _, rfl, ob, T.cl_Day, T.n_Day_tables, df_tables, D.lt, _, rfl, .inl (SqL.of ls), rfl, _, rfl, ?_⟩
  have hfew : a.tables.length ≤ 5 := B.ok.few
  have eT : ∀ {b : Bool}, (¬ (x < 1 ∨ 9 < x ∨ Kh342.MOST < n)) := fun {_} => by unfold Kh342.MOST; omega
  refine ite2 (fun h4 => refuse (z := -28) B k ?_) (fun h4 => ?_)
  · have e4 : ((D.rs.map fun r => V.ref r.a).length : Int) = 5 := V.int.inj (of_decide_eq_true h4)
    rw [List.length_map, len] at e4
    rw [CupMath.do_table, if_neg (eT (b := true)), if_pos (by unfold Kh342.TABLES; omega)]
  have h4 : a.tables.length < 5 := by
    apply Classical.byContradiction
    intro z
    refine h4 (decide_eq_true (congrArg V.int ?_))
    rw [List.length_map, len]
    omega
  have e : doing (some a) (.table x n) = (some { a with tables := a.tables ++ [⟨x, n, [], []⟩] }, Kh342.say a.tables.length) := by
    rw [CupMath.do_table, if_neg (eT (b := true)), if_neg (by unfold Kh342.TABLES; omega)]
  rw [e] at k
  -- day.tables.append(Table(takes, stock))
  refine ⟨_, rfl, D.d, A.C_Day, dx, _, _, rfl, ob, T.cl_Day, T.n_Day_tables, df_tables, .inl ⟨rfl, _, SqL.of ls⟩, _, rfl, _, rfl, fun b db nb ndb neb => ?_⟩
  refine ⟨b, db, _, _, rfl, upd_same, fun H1 lp ld q1 q2 q3 q4 q5 q6 kp => ⟨rfl, ?_⟩⟩
  have kH : ∀ c o, H c = some o → H1 c = some o := fun c o e => kp c o (by rw [upd_ne (ne_of_none e nb), upd_ne (ne_of_none e ndb)]; exact e) (ne_of_none e nb)
  have nlp : lp ≠ b := fun z => by rw [z, upd_same] at q4; cases q4
  have nld : ld ≠ b := fun z => by rw [z, upd_same] at q5; cases q5
  have flp : H lp = none := Same.free (fun c o e => by rw [upd_ne (ne_of_none e nb), upd_ne (ne_of_none e ndb)]; exact e) q4
  have fld : H ld = none := Same.free (fun c o e => by rw [upd_ne (ne_of_none e nb), upd_ne (ne_of_none e ndb)]; exact e) q5
  have l1 := kH _ _ ls
  have o1 := kH _ _ ob
  have n0 : D.d ≠ D.lt := nd_dl B.nd
  refine ⟨D.lt, _, _, rfl, rfl, l1, (by rw [List.length_map, len]; exact small400 (by omega)), ?_⟩
  -- return [len(day.tables) - 1]
  refine ⟨_, rfl, D.d, A.C_Day, dx, _, _, rfl, (by rw [upd_ne n0]; exact o1), T.cl_Day, T.n_Day_tables, df_tables, D.lt, _, rfl, .inl (SqL.of upd_same), _, _, rfl, rfl, (by show 1 ≤ sizeLine; decide), fun p hp => ?_⟩
  have np : p ≠ D.lt := fun z => by rw [z, upd_same] at hp; cases hp
  rw [upd_ne np] at hp
  have n1 : D.lt ≠ b := ne_of_none ls nb
  have n2 : D.lt ≠ lp := ne_of_none ls flp
  have n3 : D.lt ≠ ld := ne_of_none ls fld
  have kp2 : ∀ c o, H1 c = some o → c ≠ D.lt → (upd (upd H1 D.lt (.lst ((D.rs.map fun r : TR => V.ref r.a) ++ [V.ref b]))) p (.lst [V.int ((((D.rs.map fun r : TR => V.ref r.a) ++ [V.ref b]).length : Int) - 1)])) c = some o := fun c o e hc => by
    rw [upd_ne (ne_of_none e hp), upd_ne hc]
    exact e
  refine k _ ⟨D.d, D.lt, D.rs ++ [⟨b, lp, ld⟩]⟩ p (DayAt.grow B h4 (fun c o e hc => kp2 c o (kH c o e) hc) ?_ ⟨⟨db, ?_⟩, ⟨[], ?_, .nil⟩, ⟨[], ?_, .nil⟩, ?_⟩ ?_ ?_ rfl) rfl (Same.free kH hp) ?_ ?_ ?_
  · rw [upd_ne np.symm, upd_same]
  · exact kp2 _ _ q1 n1.symm
  · exact kp2 _ _ q2 n2.symm
  · exact kp2 _ _ q3 n3.symm
  · exact ⟨by show x ≤ 9; omega, Nat.zero_le _, fun p hp => absurd hp (by simp), Nat.zero_le _⟩
  · show [b, lp, ld].Nodup
    simp [nlp.symm, nld.symm, q6]
  · intro u hu
    rcases List.mem_cons.mp hu with z | hu
    · exact z ▸ nb
    rcases List.mem_cons.mp hu with z | hu
    · exact z ▸ flp
    · exact (List.mem_singleton.mp hu) ▸ fld
  · rw [upd_same, List.length_append, List.length_map, len]
    show some (HO.lst [V.int (((a.tables.length + 1 : Nat) : Int) - 1)]) = some (HO.lst [V.int (a.tables.length : Int)])
    congr 4
    omega
  · intro c o e hc
    exact kp2 c o (kH c o e) fun z => hc (z ▸ foot_lt)
  · intro c hc
    rcases foot_cases hc with z | z | ⟨q, hq, hc⟩
    · exact .inl (z ▸ foot_d)
    · exact .inl (z ▸ foot_lt)
    · rcases List.mem_append.mp hq with hq | hq
      · obtain ⟨i, hi⟩ := List.getElem?_of_mem hq
        exact .inl (in_foot hi hc)
      · have e := List.mem_singleton.mp hq
        subst e
        rcases List.mem_cons.mp hc with z | hc
        · exact .inr (z ▸ nb)
        rcases List.mem_cons.mp hc with z | hc
        · exact .inr (z ▸ flp)
        · exact .inr ((List.mem_singleton.mp hc) ▸ fld)
theorem DayAt.tbl {H : Hp} {D : DR} {a : Abs} {j : Nat} {r : TR} {x : Table} (B : DayAt A H D (some a)) (hr : D.rs[j]? = some r) (hx : a.tables[j]? = some x) : TblAt A.C_Table H r x := by
  obtain ⟨x0, h0, hT⟩ := Paired.get B.tb hr
  have e : x0 = x := Option.some.inj (h0.symm.trans hx)
  exact e ▸ hT
theorem mem_a (r : TR) : r.a ∈ parts r := List.mem_cons_self
theorem mem_lp (r : TR) : r.lp ∈ parts r := List.mem_cons_of_mem _ List.mem_cons_self
theorem mem_ld (r : TR) : r.ld ∈ parts r := List.mem_cons_of_mem _ (List.mem_cons_of_mem _ List.mem_cons_self)
theorem parts_ne {D : DR} (h : D.foot.Nodup) {j : Nat} {r : TR} (hr : D.rs[j]? = some r) : r.a ≠ r.lp ∧ r.a ≠ r.ld ∧ r.lp ≠ r.ld := by
  have n := nd_parts h hr
  simp at n
  exact ⟨n.1.1, n.1.2, n.2⟩
/-! ### pass -/
def mkPass : Nat → List Nat → Kh342.Call → Prop := fun j args c => ∃ f l n, args = [f, l, n] ∧ c = .pass j f l n
theorem sc_add_pass : FnScope ["day", "table", "numbers", "first", "length", "many"] ["day", "table", "numbers"] (defScope s_add_pass) := ⟨rfl, rfl, rfl, by decide +kernel, rfl, by decide +kernel, by decide +kernel⟩
theorem ok_add_pass (T : Txt K mg A) : FnOk P w K mg base CX0 1 A.f_add_pass A.d_add_pass ["day", "table", "numbers"] (spTab A mkPass) := by
  refine T.F_add_pass.ok sc_add_pass spTab_len fun cdv A' outer s0 H vs Q E hr0 h => ?_
  have hr := hr0
  obtain ⟨D, a, j, r, x, ln, args, c, rfl, B, hr, hx, hln, ⟨f, l, n, rfl, rfl⟩, k⟩ := h
  obtain ⟨dx, ob⟩ := B.ob
  obtain ⟨⟨dt, ho⟩, ⟨ap, hp, pp⟩, ⟨ad, hd, pd⟩, g⟩ := B.tbl hr hx
  have lenp := Paired.len pp
  refine ⟨_, (pss_cons (ps_set (i := 3) sc_add_pass.nd rfl (Or.inl rfl) (pe_ix ix_list (pv 2) pe_int (fun _ _ => rfl)))
      (pss_cons (ps_set (i := 4) sc_add_pass.nd rfl (Or.inl rfl) (pe_ix ix_list (pv 2) pe_int (fun _ _ => rfl)))
      (pss_cons (ps_set (i := 5) sc_add_pass.nd rfl (Or.inl rfl) (pe_ix ix_list (pv 2) pe_int (fun _ _ => rfl)))
      (pss_cons (ps_if (PW.pt (pw_or (pt_cmpR op_lt (pv 4) pe_int (nomark _)) (pw_or (pt_not (pt_chain op_le op_le pe_int (pv 5) (pe_gint rfl T.c_MOST_RUNNERS))) (pw_or1 (pt_cmpR op_gt (pe_op op_add (pv 3) (pv 4)) (pe_fld (pv 0) rfl) (nomark _)))))) (pss_one (ps_ret (pe_lst (pa_cons (pe_gint rfl T.c_NOT_AS_TOLD) pa_nil)))) pss_nil)
      (pss_cons (ps_if (pt_cmpR op_eq (pe_callB call_len_seq rfl T.z_len boot_len (pa_cons (pe_fld (pv 1) rfl) pa_nil)) (pe_gint rfl T.c_MOST_PASSES) (nomark _)) (pss_one (ps_ret (pe_lst (pa_cons (pe_gint rfl T.c_FULL) pa_nil)))) pss_nil)
      (pss_cons (ps_expr (pe_bm PySem.F.plainAttrs_list PySem.F.slot_list_append PySem.F.type_list_append mt_append (pe_fld (pv 1) rfl) (pa_cons (pe_tup (pa_cons (pv 3) (pa_cons (pv 4) (pa_cons (pv 5) pa_nil)))) pa_nil)))
      (pss_one (ps_ret (pe_lst (pa_cons (pe_callB call_len_seq rfl T.z_len boot_len (pa_cons (pe_fld (pv 1) rfl) pa_nil)) pa_nil)))))))))), ?_⟩
  refine ⟨_, rfl, ln, _, _, _, rfl, rfl, SqL.of hln, at_of (j := 0) rfl rfl, ?_⟩
  refine ⟨_, rfl, ln, _, _, _, rfl, rfl, SqL.of hln, at_of (j := 1) rfl rfl, ?_⟩
  refine ⟨_, rfl, ln, _, _, _, rfl, rfl, SqL.of hln, at_of (j := 2) rfl rfl, ?_⟩
  have no : (l < 1 ∨ a.day < f + l ∨ n < 1 ∨ 1000 < n) → _ := fun hm => refuse (z := -22) B k (by rw [CupMath.do_pass hx, if_pos hm])
  refine ⟨_, rfl, _, _, rfl, rfl, _, rfl, ?_⟩
  refine ite2 (fun h1 => no (by have := of_decide_eq_true h1; omega)) (fun h1 => ?_)
  have h1 : ¬ (l : Int) < 1 := fun z => h1 (decide_eq_true z)
  refine ⟨_, rfl, _, _, rfl, rfl, _, rfl, ?_⟩
  refine ite2 (fun h2 => ?_) (fun h2 => ⟨_, rfl, no (.inr (.inr (.inl (by apply Classical.byContradiction; intro z; exact h2 (decide_eq_true (by omega))))))⟩)
  have h2 := of_decide_eq_true h2
  refine ⟨_, _, rfl, rfl, _, rfl, ?_⟩
  by_cases h3 : (n : Int) ≤ 1000
  case neg =>
    rw [decide_eq_false h3]
    exact no (by omega)
  rw [decide_eq_true h3]
  refine ⟨_, rfl, _, rfl, _, _, rfl, rfl, _, rfl, D.d, A.C_Day, dx, _, _, rfl, ob, T.cl_Day, T.n_Day_minutes, df_minutes, _, _, rfl, rfl, _, rfl, ?_⟩
  refine ite2 (fun h4 => no (by have h4 : (a.day : Int) < f + l := of_decide_eq_true h4; omega)) (fun h4 => ?_)
  have h4 : ¬ (a.day : Int) < (f : Int) + (l : Int) := fun z => h4 (decide_eq_true z)
  have ok1 : ¬ (l < 1 ∨ a.day < f + l ∨ n < 1 ∨ 1000 < n) := by omega
  -- if len(table.passes) == MOST_PASSES
  refine ⟨_, rfl, r.a, A.C_Table, dt, _, _, rfl, ho, T.cl_Table, T.n_Table_passes, tf_passes, r.lp, _, rfl, .inl (SqL.of hp), rfl, _, rfl, ?_⟩
  have hfew := g.passes
  refine ite2 (fun h5 => refuse (z := -28) B k ?_) (fun h5 => ?_)
  · have e5 : ((ap.map V.ref).length : Int) = 6 := V.int.inj (of_decide_eq_true h5)
    rw [List.length_map, lenp] at e5
    rw [CupMath.do_pass hx, if_neg ok1, if_pos (by unfold Kh342.PASSES; omega)]
  have h5 : x.passes.length < 6 := by
    apply Classical.byContradiction
    intro z
    refine h5 (decide_eq_true (congrArg V.int ?_))
    rw [List.length_map, lenp]
    omega
  have e : doing (some a) (.pass j f l n) = (some { a with tables := a.tables.set j { x with passes := x.passes ++ [⟨f, l, n⟩] } }, Kh342.say (x.passes.length + 1 : Nat)) := by
    rw [CupMath.do_pass hx, if_neg ok1, if_neg (by unfold Kh342.PASSES; omega)]
  rw [e] at k
  obtain ⟨na1, na2, na3⟩ := parts_ne B.nd hr
  -- table.passes.append((first, length, many))
  refine ⟨_, rfl, r.a, A.C_Table, dt, _, _, rfl, ho, T.cl_Table, T.n_Table_passes, tf_passes, .inl ⟨rfl, _, SqL.of hp⟩, _, rfl, _, rfl, _, rfl, (by show 3 ≤ sizeLine; decide), fun q hq => ?_⟩
  have s1 : Same H (upd H q (.tup [.int f, .int l, .int n])) := same_new hq _
  refine ⟨r.lp, _, _, rfl, rfl, s1 _ _ hp, (by rw [List.length_map, lenp]; exact small400 (by omega)), ?_⟩
  -- return [len(table.passes)]
  refine ⟨_, rfl, r.a, A.C_Table, dt, _, _, rfl, (by rw [upd_ne na1]; exact s1 _ _ ho), T.cl_Table, T.n_Table_passes, tf_passes, r.lp, _, rfl, .inl (SqL.of upd_same), (by show 1 ≤ sizeLine; decide), fun p hp' => ?_⟩
  have np : p ≠ r.lp := fun z => by rw [z, upd_same] at hp'; cases hp'
  rw [upd_ne np] at hp'
  have kp : ∀ b o, (upd H q (.tup [V.int f, V.int l, V.int n])) b = some o → b ≠ r.lp → (upd (upd (upd H q (.tup [V.int f, V.int l, V.int n])) r.lp (.lst (ap.map V.ref ++ [V.ref q]))) p (.lst [V.int ((ap.map V.ref ++ [V.ref q]).length : Int)])) b = some o := fun b o e hb => by
    rw [upd_ne (ne_of_none e hp'), upd_ne hb]
    exact e
  have nq : q ≠ r.lp := (ne_of_none hp hq).symm
  refine k _ D p (DayAt.step (B.same s1) hr hx (mem_lp r) kp ⟨⟨dt, kp _ _ (s1 _ _ ho) na1⟩, ⟨ap ++ [q], ?_, Paired.snoc' ?_ (Paired.imp (fun b y hb => kp _ _ (s1 _ _ hb) (ne_tup hp trivial hb)) pp)⟩,
    ⟨ad, kp _ _ (s1 _ _ hd) na3.symm, Paired.imp (fun b y hb => kp _ _ (s1 _ _ hb) (ne_tup hp trivial hb)) pd⟩, ?_⟩ (B.ok.late x (List.mem_of_getElem? hx))) rfl (s1.free hp') ?_ (fun b o e hb => kp b o (s1 b o e) fun z => hb (z ▸ in_foot hr (mem_lp r))) fun b hb => .inl hb
  · rw [upd_ne np.symm, upd_same, List.map_append]
    rfl
  · exact kp _ _ upd_same nq
  · refine ⟨g.takes, ?_, fun p0 h0 => ?_, g.brought⟩
    · show (x.passes ++ [_]).length ≤ 6
      rw [List.length_append]
      exact h5
    · rcases List.mem_append.mp h0 with h0 | h0
      · exact g.many p0 h0
      · have e0 := List.mem_singleton.mp h0
        subst e0
        show n ≤ 1000
        omega
  · rw [upd_same, List.length_append, List.length_map, lenp]
    rfl
/-! ### bring -/
def mkBring : Nat → List Nat → Kh342.Call → Prop := fun j args c => ∃ t n, args = [t, n] ∧ c = .bring j t n
theorem sc_bring : FnScope ["day", "table", "numbers", "minute", "cups"] ["day", "table", "numbers"] (defScope s_bring) := ⟨rfl, rfl, rfl, by decide +kernel, rfl, by decide +kernel, by decide +kernel⟩
theorem ok_bring (T : Txt K mg A) : FnOk P w K mg base CX0 1 A.f_bring A.d_bring ["day", "table", "numbers"] (spTab A mkBring) := by
  refine T.F_bring.ok sc_bring spTab_len fun cdv A' outer s0 H vs Q E hr0 h => ?_
  have hr := hr0
  obtain ⟨D, a, j, r, x, ln, args, c, rfl, B, hr, hx, hln, ⟨t, n, rfl, rfl⟩, k⟩ := h
  obtain ⟨dx, ob⟩ := B.ob
  obtain ⟨⟨dt, ho⟩, ⟨ap, hp, pp⟩, ⟨ad, hd, pd⟩, g⟩ := B.tbl hr hx
  have lenp := Paired.len pd
  refine ⟨_, (pss_cons (ps_set (i := 3) sc_bring.nd rfl (Or.inl rfl) (pe_ix ix_list (pv 2) pe_int (fun _ _ => rfl)))
      (pss_cons (ps_set (i := 4) sc_bring.nd rfl (Or.inl rfl) (pe_ix ix_list (pv 2) pe_int (fun _ _ => rfl)))
      (pss_cons (ps_if (PW.pt (pw_or (pt_cmpR op_ge (pv 3) (pe_fld (pv 0) rfl) (nomark _)) (pw_or1 (pt_not (pt_chain op_le op_le pe_int (pv 4) (pe_gint rfl T.c_MOST_CUPS)))))) (pss_one (ps_ret (pe_lst (pa_cons (pe_gint rfl T.c_NOT_AS_TOLD) pa_nil)))) pss_nil)
      (pss_cons (ps_if (pt_cmpR op_eq (pe_callB call_len_seq rfl T.z_len boot_len (pa_cons (pe_fld (pv 1) rfl) pa_nil)) (pe_gint rfl T.c_MOST_DELIVERIES) (nomark _)) (pss_one (ps_ret (pe_lst (pa_cons (pe_gint rfl T.c_FULL) pa_nil)))) pss_nil)
      (pss_cons (ps_expr (pe_bm PySem.F.plainAttrs_list PySem.F.slot_list_append PySem.F.type_list_append mt_append (pe_fld (pv 1) rfl) (pa_cons (pe_tup (pa_cons (pv 3) (pa_cons (pv 4) pa_nil))) pa_nil)))
      (pss_one (ps_ret (pe_lst (pa_cons (pe_callB call_len_seq rfl T.z_len boot_len (pa_cons (pe_fld (pv 1) rfl) pa_nil)) pa_nil))))))))), ?_⟩
  refine ⟨_, rfl, ln, _, _, _, rfl, rfl, SqL.of hln, at_of (j := 0) rfl rfl, ?_⟩
  refine ⟨_, rfl, ln, _, _, _, rfl, rfl, SqL.of hln, at_of (j := 1) rfl rfl, ?_⟩
  have no : (a.day ≤ t ∨ n < 1 ∨ Kh342.MOST < n) → _ := fun hm => refuse (z := -22) B k (by rw [CupMath.do_bring hx, if_pos hm])
  refine ⟨_, rfl, _, rfl, D.d, A.C_Day, dx, _, _, rfl, ob, T.cl_Day, T.n_Day_minutes, df_minutes, _, _, rfl, rfl, _, rfl, ?_⟩
  refine ite2 (fun h1 => no (.inl (by have h1 : (a.day : Int) ≤ t := of_decide_eq_true h1; omega))) (fun h1 => ?_)
  have h1 : ¬ (a.day : Int) ≤ (t : Int) := fun z => h1 (decide_eq_true z)
  refine ⟨_, rfl, _, _, rfl, rfl, _, rfl, ?_⟩
  refine ite2 (fun h2 => ?_) (fun h2 => ⟨_, rfl, no (.inr (.inl (by apply Classical.byContradiction; intro z; exact h2 (decide_eq_true (by omega)))))⟩)
  have h2 := of_decide_eq_true h2
  refine ⟨_, _, rfl, rfl, _, rfl, ?_⟩
  by_cases h3 : (n : Int) ≤ 100000
  case neg =>
    rw [decide_eq_false h3]
    exact no (.inr (.inr (by unfold Kh342.MOST; omega)))
  rw [decide_eq_true h3]
  have ok1 : ¬ (a.day ≤ t ∨ n < 1 ∨ Kh342.MOST < n) := by unfold Kh342.MOST; omega
  -- if len(table.deliveries) == MOST_DELIVERIES
  refine ⟨_, rfl, r.a, A.C_Table, dt, _, _, rfl, ho, T.cl_Table, T.n_Table_deliveries, tf_deliveries, r.ld, _, rfl, .inl (SqL.of hd), rfl, _, rfl, ?_⟩
  have hfew := g.brought
  refine ite2 (fun h5 => refuse (z := -28) B k ?_) (fun h5 => ?_)
  · have e5 : ((ad.map V.ref).length : Int) = 6 := V.int.inj (of_decide_eq_true h5)
    rw [List.length_map, lenp] at e5
    rw [CupMath.do_bring hx, if_neg ok1, if_pos (by unfold Kh342.BROUGHT; omega)]
  have h5 : x.brought.length < 6 := by
    apply Classical.byContradiction
    intro z
    refine h5 (decide_eq_true (congrArg V.int ?_))
    rw [List.length_map, lenp]
    omega
  have e : doing (some a) (.bring j t n) = (some { a with tables := a.tables.set j (Kh342.withDelivery x t n) }, Kh342.say (x.brought.length + 1 : Nat)) := by
    rw [CupMath.do_bring hx, if_neg ok1, if_neg (by unfold Kh342.BROUGHT; omega)]
  rw [e] at k
  obtain ⟨na1, na2, na3⟩ := parts_ne B.nd hr
  -- table.deliveries.append((minute, cups))
  refine ⟨_, rfl, r.a, A.C_Table, dt, _, _, rfl, ho, T.cl_Table, T.n_Table_deliveries, tf_deliveries, .inl ⟨rfl, _, SqL.of hd⟩, _, rfl, _, rfl, (by show 2 ≤ sizeLine; decide), fun q hq => ?_⟩
  have s1 : Same H (upd H q (.tup [.int t, .int n])) := same_new hq _
  refine ⟨r.ld, _, _, rfl, rfl, s1 _ _ hd, (by rw [List.length_map, lenp]; exact small400 (by omega)), ?_⟩
  -- return [len(table.deliveries)]
  refine ⟨_, rfl, r.a, A.C_Table, dt, _, _, rfl, (by rw [upd_ne na2]; exact s1 _ _ ho), T.cl_Table, T.n_Table_deliveries, tf_deliveries, r.ld, _, rfl, .inl (SqL.of upd_same), (by show 1 ≤ sizeLine; decide), fun p hp' => ?_⟩
  have np : p ≠ r.ld := fun z => by rw [z, upd_same] at hp'; cases hp'
  rw [upd_ne np] at hp'
  have kp : ∀ b o, (upd H q (.tup [V.int t, V.int n])) b = some o → b ≠ r.ld → (upd (upd (upd H q (.tup [V.int t, V.int n])) r.ld (.lst (ad.map V.ref ++ [V.ref q]))) p (.lst [V.int ((ad.map V.ref ++ [V.ref q]).length : Int)])) b = some o := fun b o e hb => by
    rw [upd_ne (ne_of_none e hp'), upd_ne hb]
    exact e
  have nq : q ≠ r.ld := (ne_of_none hd hq).symm
  refine k _ D p (DayAt.step (B.same s1) hr hx (mem_ld r) kp ⟨⟨dt, kp _ _ (s1 _ _ ho) na2⟩, ⟨ap, kp _ _ (s1 _ _ hp) na3, Paired.imp (fun b y hb => kp _ _ (s1 _ _ hb) (ne_tup hd trivial hb)) pp⟩,
    ⟨ad ++ [q], ?_, Paired.snoc' ?_ (Paired.imp (fun b y hb => kp _ _ (s1 _ _ hb) (ne_tup hd trivial hb)) pd)⟩, ?_⟩ (fun b hb => (List.mem_append.mp hb).elim (B.ok.late x (List.mem_of_getElem? hx) b) fun z => by rw [List.mem_singleton.mp z]; show t < a.day; omega)) rfl (s1.free hp') ?_ (fun b o e hb => kp b o (s1 b o e) fun z => hb (z ▸ in_foot hr (mem_ld r))) fun b hb => .inl hb
  · rw [upd_ne np.symm, upd_same, List.map_append]
    rfl
  · exact kp _ _ upd_same nq
  · refine ⟨g.takes, g.passes, g.many, ?_⟩
    show (x.brought ++ [_]).length ≤ 6
    rw [List.length_append]
    exact h5
  · rw [upd_same, List.length_append, List.length_map, lenp]
    rfl
/-! ### take -/
def mkTake : Nat → List Nat → Kh342.Call → Prop := fun j args c => args = [] ∧ c = .take j
theorem last_of {α : Type} {l : List α} (h : l ≠ []) : ∃ b, l[l.length - 1]? = some b ∧ l.getLast? = some b := by
  refine ⟨l.getLast h, ?_, List.getLast?_eq_some_getLast h⟩
  rw [← List.getLast?_eq_getElem?]
  exact List.getLast?_eq_some_getLast h
theorem sc_take : FnScope ["day", "table", "numbers", "delivery"] ["day", "table", "numbers"] (defScope s_take) := ⟨rfl, rfl, rfl, by decide +kernel, rfl, by decide +kernel, by decide +kernel⟩
theorem ok_take (T : Txt K mg A) : FnOk P w K mg base CX0 1 A.f_take A.d_take ["day", "table", "numbers"] (spTab A mkTake) := by
  refine T.F_take.ok sc_take spTab_len fun cdv A' outer s0 H vs Q E hr0 h => ?_
  have hr := hr0
  obtain ⟨D, a, j, r, x, ln, args, c, rfl, B, hr, hx, hln, ⟨rfl, rfl⟩, k⟩ := h
  obtain ⟨dx, ob⟩ := B.ob
  obtain ⟨⟨dt, ho⟩, ⟨ap, hp, pp⟩, ⟨ad, hd, pd⟩, g⟩ := B.tbl hr hx
  have lenp := Paired.len pd
  refine ⟨_, (pss_cons (ps_if (pt_cmpR op_eq (pe_callB call_len_seq rfl T.z_len boot_len (pa_cons (pe_fld (pv 1) rfl) pa_nil)) pe_int (nomark _)) (pss_one (ps_ret (pe_lst (pa_cons (pe_gint rfl T.c_NONE_THERE) pa_nil)))) pss_nil)
      (pss_cons (ps_set (i := 3) sc_take.nd rfl (Or.inl rfl) (pe_bm0 PySem.F.plainAttrs_list PySem.F.slot_list_pop PySem.F.type_list_pop mt_pop (pe_fld (pv 1) rfl)))
      (pss_one (ps_ret (pe_lst (pa_cons (pe_ix ix_tup (pv 3) pe_int (fun _ _ => rfl)) pa_nil)))))), ?_⟩
  refine ⟨_, rfl, r.a, A.C_Table, dt, _, _, rfl, ho, T.cl_Table, T.n_Table_deliveries, tf_deliveries, r.ld, _, rfl, .inl (SqL.of hd), rfl, _, rfl, ?_⟩
  refine ite2 (fun h5 => refuse (z := -6) B k ?_) (fun h5 => ?_)
  · have e5 : ((ad.map V.ref).length : Int) = 0 := V.int.inj (of_decide_eq_true h5)
    rw [List.length_map, lenp] at e5
    rw [CupMath.do_take hx, if_pos (List.eq_nil_of_length_eq_zero (by omega))]
  have h5 : x.brought ≠ [] := fun z => by
    refine h5 (decide_eq_true (congrArg V.int ?_))
    rw [List.length_map, lenp, z]
    rfl
  obtain ⟨y, hy1, hy2⟩ := last_of h5
  have e : doing (some a) (.take j) = (some { a with tables := a.tables.set j { x with brought := x.brought.dropLast } }, Kh342.say y.2) := by
    rw [CupMath.do_take hx, if_neg h5, hy2]
    rfl
  rw [e] at k
  obtain ⟨na1, na2, na3⟩ := parts_ne B.nd hr
  obtain ⟨q, hq1, hq2⟩ := Paired.get' pd hy1
  -- delivery = table.deliveries.pop()
  refine ⟨_, rfl, r.a, A.C_Table, dt, _, _, rfl, ho, T.cl_Table, T.n_Table_deliveries, tf_deliveries, .inl ⟨rfl, _, SqL.of hd⟩, r.ld, _, V.ref q, rfl, rfl, hd, ?_, ?_⟩
  · rw [List.getElem?_map, List.length_map, lenp, hq1]
    rfl
  have nq : q ≠ r.ld := ne_tup hd trivial hq2
  -- return [delivery[1]]
  refine ⟨_, rfl, q, _, _, _, rfl, rfl, SqT.of (by rw [upd_ne nq]; exact hq2), at_of (j := 1) rfl rfl, (by show 1 ≤ sizeLine; decide), fun p hp' => ?_⟩
  have np : p ≠ r.ld := fun z => by rw [z, upd_same] at hp'; cases hp'
  rw [upd_ne np] at hp'
  have kp : ∀ b o, H b = some o → b ≠ r.ld → (upd (upd H r.ld (.lst (ad.map V.ref).dropLast)) p (.lst [V.int (y.2 : Int)])) b = some o := fun b o e hb => by
    rw [upd_ne (ne_of_none e hp'), upd_ne hb]
    exact e
  refine k _ D p (DayAt.step B hr hx (mem_ld r) kp ⟨⟨dt, kp _ _ ho na2⟩, ⟨ap, kp _ _ hp na3, Paired.imp (fun b y hb => kp _ _ hb (ne_tup hd trivial hb)) pp⟩,
    ⟨ad.dropLast, ?_, Paired.dropLast' (Paired.imp (fun b y hb => kp _ _ hb (ne_tup hd trivial hb)) pd)⟩, ?_⟩ (fun b hb => B.ok.late x (List.mem_of_getElem? hx) b (List.dropLast_subset _ hb))) rfl hp' upd_same (fun b o e hb => kp b o e fun z => hb (z ▸ in_foot hr (mem_ld r))) fun b hb => .inl hb
  · rw [upd_ne np.symm, upd_same, List.map_dropLast]
  · refine ⟨g.takes, g.passes, g.many, ?_⟩
    show (x.brought.dropLast).length ≤ 6
    rw [List.length_dropLast]
    have := g.brought
    omega
/-! ### stock -/
def mkStock : Nat → List Nat → Kh342.Call → Prop := fun j args c => ∃ n, args = [n] ∧ c = .stock j n
theorem sc_set_stock : FnScope ["day", "table", "numbers", "stock", "before"] ["day", "table", "numbers"] (defScope s_set_stock) := ⟨rfl, rfl, rfl, by decide +kernel, rfl, by decide +kernel, by decide +kernel⟩
theorem ok_set_stock (T : Txt K mg A) : FnOk P w K mg base CX0 1 A.f_set_stock A.d_set_stock ["day", "table", "numbers"] (spTab A mkStock) := by
  refine T.F_set_stock.ok sc_set_stock spTab_len fun cdv A' outer s0 H vs Q E hr0 h => ?_
  have hr := hr0
  obtain ⟨D, a, j, r, x, ln, args, c, rfl, B, hr, hx, hln, ⟨n, rfl, rfl⟩, k⟩ := h
  obtain ⟨⟨dt, ho⟩, ⟨ap, hp, pp⟩, ⟨ad, hd, pd⟩, g⟩ := B.tbl hr hx
  refine ⟨_, (pss_cons (ps_set (i := 3) sc_set_stock.nd rfl (Or.inl rfl) (pe_ix ix_list (pv 2) pe_int (fun _ _ => rfl)))
      (pss_cons (ps_if (pt_cmpR op_gt (pv 3) (pe_gint rfl T.c_MOST_CUPS) (nomark _)) (pss_one (ps_ret (pe_lst (pa_cons (pe_gint rfl T.c_NOT_AS_TOLD) pa_nil)))) pss_nil)
      (pss_cons (ps_set (i := 4) sc_set_stock.nd rfl (Or.inl rfl) (pe_fld (pv 1) rfl))
      (pss_cons (ps_fld (pv 1) (pv 3) rfl)
      (pss_one (ps_ret (pe_lst (pa_cons (pv 4) pa_nil)))))))), ?_⟩
  refine ⟨_, rfl, ln, _, _, _, rfl, rfl, SqL.of hln, at_of (j := 0) rfl rfl, ?_⟩
  refine ⟨_, rfl, _, _, rfl, rfl, _, rfl, ?_⟩
  refine ite2 (fun h5 => refuse (z := -22) B k ?_) (fun h5 => ?_)
  · have e5 : (100000 : Int) < n := of_decide_eq_true h5
    rw [CupMath.do_stock hx, if_pos (by unfold Kh342.MOST; omega)]
  have h5 : ¬ (100000 : Int) < (n : Int) := fun z => h5 (decide_eq_true z)
  have e : doing (some a) (.stock j n) = (some { a with tables := a.tables.set j { x with stock := n } }, Kh342.say x.stock) := by
    rw [CupMath.do_stock hx, if_neg (by unfold Kh342.MOST; omega)]
  rw [e] at k
  obtain ⟨na1, na2, na3⟩ := parts_ne B.nd hr
  refine ⟨_, rfl, r.a, A.C_Table, dt, _, _, rfl, ho, T.cl_Table, T.n_Table_stock, tf_stock, ?_⟩
  refine ⟨_, rfl, _, rfl, r.a, A.C_Table, dt, _, rfl, ho, T.cl_Table, T.n_Table_stock, (by show 4 < 1000; decide), ?_⟩
  refine ⟨_, rfl, (by show 1 ≤ sizeLine; decide), fun p hp' => ?_⟩
  have np : p ≠ r.a := fun z => by rw [z, upd_same] at hp'; cases hp'
  rw [upd_ne np] at hp'
  have kp : ∀ b o, H b = some o → b ≠ r.a → (upd (upd H r.a (.ins A.C_Table dt (putF "stock" (V.int (n : Int)) (tf x.takes x.stock r.lp r.ld)))) p (.lst [V.int (x.stock : Int)])) b = some o := fun b o e hb => by
    rw [upd_ne (ne_of_none e hp'), upd_ne hb]
    exact e
  refine k _ D p (DayAt.step B hr hx (mem_a r) kp ⟨⟨dt, ?_⟩, ⟨ap, kp _ _ hp na1.symm, Paired.imp (fun b y hb => kp _ _ hb (ne_tup ho trivial hb)) pp⟩,
    ⟨ad, kp _ _ hd na2.symm, Paired.imp (fun b y hb => kp _ _ hb (ne_tup ho trivial hb)) pd⟩, ⟨g.takes, g.passes, g.many, g.brought⟩⟩ (B.ok.late x (List.mem_of_getElem? hx))) rfl hp' upd_same (fun b o e hb => kp b o e fun z => hb (z ▸ in_foot hr (mem_a r))) fun b hb => .inl hb
  rw [upd_ne np.symm, upd_same]
  exact congrArg (fun q => some (HO.ins A.C_Table dt q)) tf_put
/-! ### wants, there, least, short -/
def mkWants : Nat → List Nat → Kh342.Call → Prop := fun j args c => ∃ t, args = [t] ∧ c = .wants j t
theorem sc_wants : FnScope ["day", "table", "numbers", "minute"] ["day", "table", "numbers"] (defScope s_wants) := ⟨rfl, rfl, rfl, by decide +kernel, rfl, by decide +kernel, by decide +kernel⟩
theorem ok_wants (T : Txt K mg A) : FnOk P w K mg base CX0 2 A.f_wants A.d_wants ["day", "table", "numbers"] (spTab A mkWants) := by
  refine T.F_wants.ok sc_wants spTab_len fun cdv A' outer s0 H vs Q E hr h => ?_
  obtain ⟨D, a, j, r, x, ln, args, c, rfl, B, hrs, hx, hln, ⟨t, rfl, rfl⟩, k⟩ := h
  obtain ⟨dx, ob⟩ := B.ob
  have BT := B.tbl hrs hx
  obtain ⟨⟨dt, ho⟩, _, _, g⟩ := id BT
  refine ⟨_, (pss_cons (ps_set (i := 3) sc_wants.nd rfl (Or.inl rfl) (pe_ix ix_list (pv 2) pe_int (fun _ _ => rfl)))
      (pss_cons (ps_if (pt_cmpR op_ge (pv 3) (pe_fld (pv 0) rfl) (nomark _)) (pss_one (ps_ret (pe_lst (pa_cons (pe_gint rfl T.c_NOT_AS_TOLD) pa_nil)))) pss_nil)
      (pss_one (ps_ret (pe_lst (pa_cons (pe_meth (pv 1) T.cl_Table T.m_Table_wanted_in (ok_Table_wanted_in T) (hr.mono (by decide)) T.b_Table_wanted_in .nil pass0 (pa_cons (pv 3) pa_nil)) (pa_cons (pe_meth (pv 1) T.cl_Table T.m_Table_wanted_up_to (ok_Table_wanted_up_to T) (hr.mono (by decide)) T.b_Table_wanted_up_to .nil pass0 (pa_cons (pv 3) pa_nil)) pa_nil))))))), ?_⟩
  refine ⟨_, rfl, ln, _, _, _, rfl, rfl, SqL.of hln, at_of (j := 0) rfl rfl, ?_⟩
  refine ⟨_, rfl, _, rfl, D.d, A.C_Day, dx, _, _, rfl, ob, T.cl_Day, T.n_Day_minutes, df_minutes, _, _, rfl, rfl, _, rfl, ?_⟩
  refine ite2 (fun h1 => refuse (z := -22) B k (by have h1 : (a.day : Int) ≤ t := of_decide_eq_true h1; rw [CupMath.do_wants hx, if_pos (by omega)])) (fun h1 => ?_)
  have h1 : ¬ (a.day : Int) ≤ (t : Int) := fun z => h1 (decide_eq_true z)
  refine ⟨_, rfl, r.a, dt, _, rfl, ho, rfl, _, rfl, r, x, t, rfl, BT, trivial, fun H1 s1 => ?_⟩
  refine ⟨_, rfl, r.a, dt, _, rfl, s1 _ _ ho, rfl, _, rfl, r, x, t, rfl, BT.same s1, trivial, fun H2 s2 => ?_⟩
  refine ⟨(by show 2 ≤ sizeLine; decide), fun p hp => ?_⟩
  exact reads (l := [((upTo x.wants t : Nat) : Int)]) B k (s1.trans s2) (by rw [CupMath.do_wants hx, if_neg (by omega)]) hp
def mkThere : Nat → List Nat → Kh342.Call → Prop := fun j args c => ∃ t, args = [t] ∧ c = .there j t
theorem sc_there : FnScope ["day", "table", "numbers", "minute"] ["day", "table", "numbers"] (defScope s_there) := ⟨rfl, rfl, rfl, by decide +kernel, rfl, by decide +kernel, by decide +kernel⟩
theorem ok_there (T : Txt K mg A) : FnOk P w K mg base CX0 3 A.f_there A.d_there ["day", "table", "numbers"] (spTab A mkThere) := by
  refine T.F_there.ok sc_there spTab_len fun cdv A' outer s0 H vs Q E hr h => ?_
  obtain ⟨D, a, j, r, x, ln, args, c, rfl, B, hrs, hx, hln, ⟨t, rfl, rfl⟩, k⟩ := h
  obtain ⟨dx, ob⟩ := B.ob
  have BT := B.tbl hrs hx
  obtain ⟨⟨dt, ho⟩, _, _, g⟩ := id BT
  refine ⟨_, (pss_cons (ps_set (i := 3) sc_there.nd rfl (Or.inl rfl) (pe_ix ix_list (pv 2) pe_int (fun _ _ => rfl)))
      (pss_cons (ps_if (pt_cmpR op_ge (pv 3) (pe_fld (pv 0) rfl) (nomark _)) (pss_one (ps_ret (pe_lst (pa_cons (pe_gint rfl T.c_NOT_AS_TOLD) pa_nil)))) pss_nil)
      (pss_one (ps_ret (pe_lst (pa_cons pe_int (pa_cons (pe_meth (pv 1) T.cl_Table T.m_Table_there_behind (ok_Table_there_behind T) (hr.mono (by decide)) T.b_Table_there_behind .nil pass0 (pa_cons (pv 3) pa_nil)) pa_nil))))))), ?_⟩
  refine ⟨_, rfl, ln, _, _, _, rfl, rfl, SqL.of hln, at_of (j := 0) rfl rfl, ?_⟩
  refine ⟨_, rfl, _, rfl, D.d, A.C_Day, dx, _, _, rfl, ob, T.cl_Day, T.n_Day_minutes, df_minutes, _, _, rfl, rfl, _, rfl, ?_⟩
  refine ite2 (fun h1 => refuse (z := -22) B k (by have h1 : (a.day : Int) ≤ t := of_decide_eq_true h1; rw [CupMath.do_there hx, if_pos (by omega)])) (fun h1 => ?_)
  have h1 : ¬ (a.day : Int) ≤ (t : Int) := fun z => h1 (decide_eq_true z)
  refine ⟨_, rfl, r.a, dt, _, rfl, ho, rfl, _, rfl, r, x, t, rfl, BT, trivial, fun H1 s1 => ?_⟩
  refine ⟨(by show 2 ≤ sizeLine; decide), fun p hp => ?_⟩
  exact reads (l := [thereI x t]) B k s1 (by rw [CupMath.do_there hx, if_neg (by omega)]; rfl) hp
def mkLeast : Nat → List Nat → Kh342.Call → Prop := fun j args c => args = [] ∧ c = .least j
theorem sc_least : FnScope ["day", "table", "numbers"] ["day", "table", "numbers"] (defScope s_least) := ⟨rfl, rfl, rfl, by decide +kernel, rfl, by decide +kernel, by decide +kernel⟩
theorem ok_least (T : Txt K mg A) : FnOk P w K mg base CX0 4 A.f_least A.d_least ["day", "table", "numbers"] (spTab A mkLeast) := by
  refine T.F_least.ok sc_least spTab_len fun cdv A' outer s0 H vs Q E hr h => ?_
  obtain ⟨D, a, j, r, x, ln, args, c, rfl, B, hrs, hx, hln, ⟨rfl, rfl⟩, k⟩ := h
  obtain ⟨dx, ob⟩ := B.ob
  have BT := B.tbl hrs hx
  obtain ⟨⟨dt, ho⟩, _, _, g⟩ := id BT
  refine ⟨_, (pss_one (ps_ret (pe_lst (pa_cons (pe_meth (pv 1) T.cl_Table T.m_Table_least_needed (ok_Table_least_needed T) (hr.mono (by decide)) T.b_Table_least_needed .nil pass0 (pa_cons (pe_fld (pv 0) rfl) pa_nil)) pa_nil)))), ?_⟩
  refine ⟨_, rfl, r.a, dt, _, rfl, ho, rfl, _, rfl, D.d, A.C_Day, dx, _, _, rfl, ob, T.cl_Day, T.n_Day_minutes, df_minutes, r, x, a.day, rfl, BT, B.ok.day a rfl, fun H1 s1 => ?_⟩
  refine ⟨(by show 1 ≤ sizeLine; decide), fun p hp => ?_⟩
  exact reads (l := []) B k s1 (CupMath.do_least hx) hp
def mkShort : Nat → List Nat → Kh342.Call → Prop := fun j args c => args = [] ∧ c = .short j
theorem sc_short : FnScope ["day", "table", "numbers", "missing"] ["day", "table", "numbers"] (defScope s_short) := ⟨rfl, rfl, rfl, by decide +kernel, rfl, by decide +kernel, by decide +kernel⟩
theorem ok_short (T : Txt K mg A) : FnOk P w K mg base CX0 4 A.f_short A.d_short ["day", "table", "numbers"] (spTab A mkShort) := by
  refine T.F_short.ok sc_short spTab_len fun cdv A' outer s0 H vs Q E hr h => ?_
  obtain ⟨D, a, j, r, x, ln, args, c, rfl, B, hrs, hx, hln, ⟨rfl, rfl⟩, k⟩ := h
  obtain ⟨dx, ob⟩ := B.ob
  have BT := B.tbl hrs hx
  obtain ⟨⟨dt, ho⟩, _, _, g⟩ := id BT
  refine ⟨_, (pss_cons (ps_set (i := 3) sc_short.nd rfl (Or.inl rfl) (pe_op op_sub (pe_meth (pv 1) T.cl_Table T.m_Table_least_needed (ok_Table_least_needed T) (hr.mono (by decide)) T.b_Table_least_needed .nil pass0 (pa_cons (pe_fld (pv 0) rfl) pa_nil)) (pe_fld (pv 1) rfl)))
      (pss_cons (ps_if (pt_cmpR op_le (pv 3) pe_int (nomark _)) (pss_one (ps_ret (pe_lst (pa_cons (pe_gint rfl T.c_NONE_THERE) pa_nil)))) pss_nil)
      (pss_one (ps_ret (pe_lst (pa_cons (pe_meth (pv 1) T.cl_Table T.m_Table_first_too_few (ok_Table_first_too_few T) (hr.mono (by decide)) T.b_Table_first_too_few .nil pass0 (pa_cons (pe_fld (pv 0) rfl) pa_nil)) (pa_cons (pv 3) pa_nil))))))), ?_⟩
  refine ⟨_, rfl, r.a, dt, _, rfl, ho, rfl, _, rfl, D.d, A.C_Day, dx, _, _, rfl, ob, T.cl_Day, T.n_Day_minutes, df_minutes, r, x, a.day, rfl, BT, B.ok.day a rfl, fun H1 s1 => ?_⟩
  refine ⟨_, rfl, r.a, A.C_Table, dt, _, _, rfl, s1 _ _ ho, T.cl_Table, T.n_Table_stock, tf_stock, _, _, rfl, rfl, ?_⟩
  refine ⟨_, rfl, _, _, rfl, rfl, _, rfl, ?_⟩
  have B1 := B.same s1
  refine ite2 (fun h1 => ?_) (fun h1 => ?_)
  · have h1 : ((Kh342.least a.day x : Nat) : Int) - (x.stock : Int) ≤ 0 := of_decide_eq_true h1
    refine ⟨(by show 1 ≤ sizeLine; decide), fun p hp => ?_⟩
    exact reads (l := []) B k s1 (CupMath.do_short_no hx (by omega)) hp
  have h1 : ¬ ((Kh342.least a.day x : Nat) : Int) - (x.stock : Int) ≤ 0 := fun z => h1 (decide_eq_true z)
  have hlt : x.stock < Kh342.least a.day x := by omega
  obtain ⟨t, ht⟩ : ∃ t, Kh342.firstShort a.day x = some t := by
    cases e : Kh342.firstShort a.day x with
    | none => exact absurd (CupMath.firstShort_none.mp e) (by omega)
    | some t => exact ⟨t, rfl⟩
  refine ⟨_, rfl, r.a, dt, _, rfl, s1 _ _ ho, rfl, _, rfl, D.d, A.C_Day, dx, _, _, rfl, s1 _ _ ob, T.cl_Day, T.n_Day_minutes, df_minutes, r, x, a.day, rfl, BT.same s1, ⟨(B.ok.day a rfl).2, hlt⟩, fun H2 s2 => ?_⟩
  refine ⟨_, rfl, (by show 2 ≤ sizeLine; decide), fun p hp => ?_⟩
  have q := reads (l := [((Kh342.least a.day x - x.stock : Nat) : Int)]) B k (s1.trans s2) (CupMath.do_short hx ht) hp
  have e1 : (((Kh342.firstShort a.day x).getD 0 : Nat) : Int) = (t : Int) := by rw [ht]; rfl
  have e2 : ((Kh342.least a.day x - x.stock : Nat) : Int) = ((Kh342.least a.day x : Nat) : Int) - (x.stock : Int) := by omega
  rw [e2, ← e1] at q
  exact q
end
end Cup
end

section
set_option Elab.async false
set_option linter.all false
set_option maxRecDepth 100000
set_option maxHeartbeats 4000000
/-! The methods of a day. -/
namespace Cup
open PySem PySem.Spec PyProof.Rows L2
open Kh342 (Pass Table Abs upTo doing nums)
open CupMath (sumTo tooFew gapTo gapsTo lev levTo)
/-- methods that read the day: a number, a number by a minute, a bool, a new list -/
def spD0 (A : Ad) (g : Abs → Int) : Sp := fun vs H Q _ => ∃ (D : DR) (a : Abs), vs = [.ref D.d] ∧ DayAt A H D (some a) ∧ ∀ H' : Hp, Same H H' → Q (.int (g a)) H'
def spD1 (A : Ad) (g : Abs → Nat → Int) : Sp := fun vs H Q _ => ∃ (D : DR) (a : Abs) (t : Nat), vs = [.ref D.d, .int t] ∧ DayAt A H D (some a) ∧ ∀ H' : Hp, Same H H' → Q (.int (g a t)) H'
def spDB (A : Ad) (g : Abs → Bool) : Sp := fun vs H Q _ => ∃ (D : DR) (a : Abs), vs = [.ref D.d] ∧ DayAt A H D (some a) ∧ ∀ H' : Hp, Same H H' → Q (.bl (g a)) H'
def spDL (A : Ad) (g : Abs → List Int) : Sp := fun vs H Q _ => ∃ (D : DR) (a : Abs), vs = [.ref D.d] ∧ DayAt A H D (some a) ∧ ∀ (H' : Hp) (p : Addr), Same H H' → H p = none → H' p = some (.lst ((g a).map V.int)) → Q (.ref p) H'
theorem spD0_len {A : Ad} {g : Abs → Int} (vs : List V) (H : Hp) (Q : VK) (E : XK) (h : spD0 A g vs H Q E) : vs.length = 1 := by
  obtain ⟨D, a, rfl, _⟩ := h
  rfl
theorem spD1_len {A : Ad} {g : Abs → Nat → Int} (vs : List V) (H : Hp) (Q : VK) (E : XK) (h : spD1 A g vs H Q E) : vs.length = 2 := by
  obtain ⟨D, a, t, rfl, _⟩ := h
  rfl
theorem spDB_len {A : Ad} {g : Abs → Bool} (vs : List V) (H : Hp) (Q : VK) (E : XK) (h : spDB A g vs H Q E) : vs.length = 1 := by
  obtain ⟨D, a, rfl, _⟩ := h
  rfl
theorem spDL_len {A : Ad} {g : Abs → List Int} (vs : List V) (H : Hp) (Q : VK) (E : XK) (h : spDL A g vs H Q E) : vs.length = 1 := by
  obtain ⟨D, a, rfl, _⟩ := h
  rfl
theorem sum_small {f : Table → Int} {a : Abs} {i : Nat} (h : a.tables.length ≤ 5) : ((sumTo f a i).map V.int).length < sizeLine := by
  rw [List.length_map]
  exact small400 (Nat.le_trans (CupMath.sumTo_len f a i) (by omega))
def stockI (x : Table) : Int := (x.stock : Int)
def wantI (t : Nat) (x : Table) : Int := ((upTo x.wants t : Nat) : Int)
def comeI (t : Nat) (x : Table) : Int := ((upTo x.comes t : Nat) : Int)
def leastI (d : Nat) (x : Table) : Int := ((Kh342.least d x : Nat) : Int)
def allStock (a : Abs) : Nat := (a.tables.map Table.stock).sum
def allWant (a : Abs) (t : Nat) : Nat := (a.tables.map fun x => upTo x.wants t).sum
def allCome (a : Abs) (t : Nat) : Nat := (a.tables.map fun x => upTo x.comes t).sum
section
variable {P : Program} {w : World} {K : PySem.W.Frag} {mg : Str → Option Value} {base : Heap} {A : Ad}
theorem rs_len {H : Hp} {D : DR} {a : Abs} (B : DayAt A H D (some a)) : (D.rs.map fun r => V.ref r.a).length = a.tables.length := by
  rw [List.length_map]
  exact Paired.len B.tb
theorem rs_at {H : Hp} {D : DR} {a : Abs} {i : Nat} {y : V} (B : DayAt A H D (some a)) (h : (D.rs.map fun r => V.ref r.a)[i]? = some y) : ∃ r x, D.rs[i]? = some r ∧ a.tables[i]? = some x ∧ y = .ref r.a ∧ TblAt A.C_Table H r x := by
  obtain ⟨r, hr, rfl⟩ := map_at h
  obtain ⟨x, hx, hT⟩ := Paired.get B.tb hr
  exact ⟨r, x, hr, hx, rfl, hT⟩
/-! ### sums over the tables -/
theorem sc_Day_all_stock : FnScope ["self", "table"] ["self"] (defScope s_Day_all_stock) := ⟨rfl, rfl, rfl, by decide +kernel, rfl, by decide +kernel, by decide +kernel⟩
theorem ok_Day_all_stock (T : Txt K mg A) : FnOk P w K mg base CX0 1 A.f_Day_all_stock A.d_Day_all_stock ["self"] (spD0 A fun a => (allStock a : Int)) := by
  refine T.F_Day_all_stock.ok sc_Day_all_stock spD0_len fun cdv A' outer s H vs Q E hr h => ?_
  obtain ⟨D, a, rfl, B, k⟩ := h
  obtain ⟨dx, ob⟩ := B.ob
  have ls := B.ls
  have few : a.tables.length ≤ 5 := B.ok.few
  refine ⟨_, (pss_one (ps_ret (pe_callB (cr_sum rfl) rfl T.z_sum boot_sum (pa_cons (pe_lc (own := [("table", 1)]) (te := (tFld K _ _)) rfl sc_Day_all_stock.nd (pi_list (pe_fld (pv 0) rfl)) (blkOk_by (by rfl)) (fun _ _ _ _ _ => (pg_name (i := 1) sc_Day_all_stock.nd rfl (Or.inl rfl))) (fun _ _ _ _ _ => pts_nil) (fun _ _ _ _ _ => (pe_fld (pv 1) rfl))) pa_nil)))), ?_⟩
  refine ⟨_, rfl, D.d, A.C_Day, dx, _, _, rfl, ob, T.cl_Day, T.n_Day_tables, df_tables, D.lt, rfl, ⟨_, SqL.of ls⟩, fun L hL => lc_list (K := K) (a := D.lt) (xs := D.rs.map fun r => V.ref r.a)
    (fun i H' => Same H H' ∧ H' L = some (.lst ((sumTo stockI a i).map V.int))) ⟨same_new hL _, upd_same⟩ (fun i H' _ ⟨s5, _⟩ => SqL.of (s5 _ _ ls)) ?_ ?_⟩
  · rintro i y H' hi ⟨s5, hl⟩
    obtain ⟨r, x, hr', hx, rfl, hT⟩ := rs_at B hi
    obtain ⟨⟨dt, ho⟩, _, _, _⟩ := id hT
    refine ⟨rfl, ?_⟩
    refine ⟨_, rfl, r.a, A.C_Table, dt, _, _, rfl, s5 _ _ ho, T.cl_Table, T.n_Table_stock, tf_stock, _, hl, sum_small few, same_put s5 hL _, ?_⟩
    rw [upd_same, CupMath.sumTo_succ hx, List.map_append]
    rfl
  · rintro H' ⟨s5, hl⟩
    refine ⟨L, _, rfl, SqL.of hl, ?_⟩
    have e : (sumTo stockI a (D.rs.map fun r => V.ref r.a).length).sum = (allStock a : Int) := by
      rw [rs_len B, CupMath.sumTo_all]
      exact CupMath.cast_map Table.stock a.tables
    rw [e]
    exact k H' s5
theorem sc_Day_all_wanted_up_to : FnScope ["self", "minute", "table"] ["self", "minute"] (defScope s_Day_all_wanted_up_to) := ⟨rfl, rfl, rfl, by decide +kernel, rfl, by decide +kernel, by decide +kernel⟩
theorem ok_Day_all_wanted_up_to (T : Txt K mg A) : FnOk P w K mg base CX0 2 A.f_Day_all_wanted_up_to A.d_Day_all_wanted_up_to ["self", "minute"] (spD1 A fun a t => (allWant a t : Int)) := by
  refine T.F_Day_all_wanted_up_to.ok sc_Day_all_wanted_up_to spD1_len fun cdv A' outer s H vs Q E hr h => ?_
  obtain ⟨D, a, t, rfl, B, k⟩ := h
  obtain ⟨dx, ob⟩ := B.ob
  have ls := B.ls
  have few : a.tables.length ≤ 5 := B.ok.few
  refine ⟨_, (pss_one (ps_ret (pe_callB (cr_sum rfl) rfl T.z_sum boot_sum (pa_cons (pe_lc (own := [("table", 2)])  rfl sc_Day_all_wanted_up_to.nd (pi_list (pe_fld (pv 0) rfl)) (blkOk_by (by rfl)) (fun _ _ _ _ _ => (pg_name (i := 2) sc_Day_all_wanted_up_to.nd rfl (Or.inl rfl))) (fun _ _ _ _ _ => pts_nil) (fun _ _ _ _ _ => (pe_meth (pv 2) T.cl_Table T.m_Table_wanted_up_to (ok_Table_wanted_up_to T) (hr.mono (by decide)) T.b_Table_wanted_up_to .nil pass0 (pa_cons (pv 1) pa_nil)))) pa_nil)))), ?_⟩
  refine ⟨_, rfl, D.d, A.C_Day, dx, _, _, rfl, ob, T.cl_Day, T.n_Day_tables, df_tables, D.lt, rfl, ⟨_, SqL.of ls⟩, fun L hL => lc_list (K := K) (a := D.lt) (xs := D.rs.map fun r => V.ref r.a)
    (fun i H' => Same H H' ∧ H' L = some (.lst ((sumTo (wantI t) a i).map V.int))) ⟨same_new hL _, upd_same⟩ (fun i H' _ ⟨s5, _⟩ => SqL.of (s5 _ _ ls)) ?_ ?_⟩
  · rintro i y H' hi ⟨s5, hl⟩
    obtain ⟨r, x, hr', hx, rfl, hT⟩ := rs_at B hi
    obtain ⟨⟨dt, ho⟩, _, _, _⟩ := id hT
    refine ⟨rfl, ?_⟩
    refine ⟨_, rfl, r.a, dt, _, rfl, s5 _ _ ho, rfl, _, rfl, r, x, t, rfl, hT.same s5, trivial, fun H2 s2 => ?_⟩
    refine ⟨_, s2 _ _ hl, sum_small few, same_put (s5.trans s2) hL _, ?_⟩
    rw [upd_same, CupMath.sumTo_succ hx, List.map_append]
    rfl
  · rintro H' ⟨s5, hl⟩
    refine ⟨L, _, rfl, SqL.of hl, ?_⟩
    have e : (sumTo (wantI t) a (D.rs.map fun r => V.ref r.a).length).sum = (allWant a t : Int) := by
      rw [rs_len B, CupMath.sumTo_all]
      exact CupMath.cast_map (fun x => upTo x.wants t) a.tables
    rw [e]
    exact k H' s5
theorem sc_Day_all_brought_up_to : FnScope ["self", "minute", "table"] ["self", "minute"] (defScope s_Day_all_brought_up_to) := ⟨rfl, rfl, rfl, by decide +kernel, rfl, by decide +kernel, by decide +kernel⟩
theorem ok_Day_all_brought_up_to (T : Txt K mg A) : FnOk P w K mg base CX0 2 A.f_Day_all_brought_up_to A.d_Day_all_brought_up_to ["self", "minute"] (spD1 A fun a t => (allCome a t : Int)) := by
  refine T.F_Day_all_brought_up_to.ok sc_Day_all_brought_up_to spD1_len fun cdv A' outer s H vs Q E hr h => ?_
  obtain ⟨D, a, t, rfl, B, k⟩ := h
  obtain ⟨dx, ob⟩ := B.ob
  have ls := B.ls
  have few : a.tables.length ≤ 5 := B.ok.few
  refine ⟨_, (pss_one (ps_ret (pe_callB (cr_sum rfl) rfl T.z_sum boot_sum (pa_cons (pe_lc (own := [("table", 2)])  rfl sc_Day_all_brought_up_to.nd (pi_list (pe_fld (pv 0) rfl)) (blkOk_by (by rfl)) (fun _ _ _ _ _ => (pg_name (i := 2) sc_Day_all_brought_up_to.nd rfl (Or.inl rfl))) (fun _ _ _ _ _ => pts_nil) (fun _ _ _ _ _ => (pe_meth (pv 2) T.cl_Table T.m_Table_brought_up_to (ok_Table_brought_up_to T) (hr.mono (by decide)) T.b_Table_brought_up_to .nil pass0 (pa_cons (pv 1) pa_nil)))) pa_nil)))), ?_⟩
  refine ⟨_, rfl, D.d, A.C_Day, dx, _, _, rfl, ob, T.cl_Day, T.n_Day_tables, df_tables, D.lt, rfl, ⟨_, SqL.of ls⟩, fun L hL => lc_list (K := K) (a := D.lt) (xs := D.rs.map fun r => V.ref r.a)
    (fun i H' => Same H H' ∧ H' L = some (.lst ((sumTo (comeI t) a i).map V.int))) ⟨same_new hL _, upd_same⟩ (fun i H' _ ⟨s5, _⟩ => SqL.of (s5 _ _ ls)) ?_ ?_⟩
  · rintro i y H' hi ⟨s5, hl⟩
    obtain ⟨r, x, hr', hx, rfl, hT⟩ := rs_at B hi
    obtain ⟨⟨dt, ho⟩, _, _, _⟩ := id hT
    refine ⟨rfl, ?_⟩
    refine ⟨_, rfl, r.a, dt, _, rfl, s5 _ _ ho, rfl, _, rfl, r, x, t, rfl, hT.same s5, trivial, fun H2 s2 => ?_⟩
    refine ⟨_, s2 _ _ hl, sum_small few, same_put (s5.trans s2) hL _, ?_⟩
    rw [upd_same, CupMath.sumTo_succ hx, List.map_append]
    rfl
  · rintro H' ⟨s5, hl⟩
    refine ⟨L, _, rfl, SqL.of hl, ?_⟩
    have e : (sumTo (comeI t) a (D.rs.map fun r => V.ref r.a).length).sum = (allCome a t : Int) := by
      rw [rs_len B, CupMath.sumTo_all]
      exact CupMath.cast_map (fun x => upTo x.comes t) a.tables
    rw [e]
    exact k H' s5
/-! ### the leasts -/
def leasts (a : Abs) : List Int := nums (a.tables.map (Kh342.least a.day))
theorem leasts_eq (a : Abs) : sumTo (leastI a.day) a a.tables.length = leasts a := by
  rw [CupMath.sumTo_all]
  unfold leasts nums
  rw [List.map_map]
  rfl
theorem leasts_sum (a : Abs) : (leasts a).sum = (Kh342.apart a : Int) := by
  rw [← leasts_eq, CupMath.sumTo_all]
  exact CupMath.cast_map (Kh342.least a.day) a.tables
theorem leasts_len (a : Abs) : (leasts a).length = a.tables.length := by
  unfold leasts nums
  rw [List.length_map, List.length_map]
theorem leasts_at {a : Abs} {i : Nat} {x : Table} {y : V} (hx : a.tables[i]? = some x) (h : ((leasts a).map V.int)[i]? = some y) : y = .int ((Kh342.least a.day x : Nat) : Int) := by
  unfold leasts nums at h
  rw [List.map_map, List.map_map, List.getElem?_map, hx] at h
  exact (Option.some.inj h).symm
theorem sc_Day_leasts : FnScope ["self", "table"] ["self"] (defScope s_Day_leasts) := ⟨rfl, rfl, rfl, by decide +kernel, rfl, by decide +kernel, by decide +kernel⟩
theorem ok_Day_leasts (T : Txt K mg A) : FnOk P w K mg base CX0 4 A.f_Day_leasts A.d_Day_leasts ["self"] (spDL A leasts) := by
  refine T.F_Day_leasts.ok sc_Day_leasts spDL_len fun cdv A' outer s H vs Q E hr h => ?_
  obtain ⟨D, a, rfl, B, k⟩ := h
  obtain ⟨dx, ob⟩ := B.ob
  have ls := B.ls
  have few : a.tables.length ≤ 5 := B.ok.few
  refine ⟨_, (pss_one (ps_ret (pe_lc (own := [("table", 1)]) (te := (tMeth _ _ _ _ _ _ (tCons (tFld K _ _) tNil))) rfl sc_Day_leasts.nd (pi_list (pe_fld (pv 0) rfl)) (blkOk_by (by rfl)) (fun _ _ _ _ _ => (pg_name (i := 1) sc_Day_leasts.nd rfl (Or.inl rfl))) (fun _ _ _ _ _ => pts_nil) (fun _ _ _ _ _ => (pe_meth (pv 1) T.cl_Table T.m_Table_least_needed (ok_Table_least_needed T) (hr.mono (by decide)) T.b_Table_least_needed .nil pass0 (pa_cons (pe_fld (pv 0) rfl) pa_nil)))))), ?_⟩
  refine ⟨_, rfl, D.d, A.C_Day, dx, _, _, rfl, ob, T.cl_Day, T.n_Day_tables, df_tables, D.lt, rfl, ⟨_, SqL.of ls⟩, fun L hL => lc_list (K := K) (a := D.lt) (xs := D.rs.map fun r => V.ref r.a)
    (fun i H' => Same H H' ∧ H' L = some (.lst ((sumTo (leastI a.day) a i).map V.int))) ⟨same_new hL _, upd_same⟩ (fun i H' _ ⟨s5, _⟩ => SqL.of (s5 _ _ ls)) ?_ ?_⟩
  · rintro i y H' hi ⟨s5, hl⟩
    obtain ⟨r, x, hr', hx, rfl, hT⟩ := rs_at B hi
    obtain ⟨⟨dt, ho⟩, _, _, _⟩ := id hT
    refine ⟨rfl, ?_⟩
    refine ⟨_, rfl, r.a, dt, _, rfl, s5 _ _ ho, rfl, _, rfl, D.d, A.C_Day, dx, _, _, rfl, s5 _ _ ob, T.cl_Day, T.n_Day_minutes, df_minutes, r, x, a.day, rfl, hT.same s5, B.ok.day a rfl, fun H2 s2 => ?_⟩
    refine ⟨_, s2 _ _ hl, sum_small few, same_put (s5.trans s2) hL _, ?_⟩
    rw [upd_same, CupMath.sumTo_succ hx, List.map_append]
    rfl
  · rintro H' ⟨s5, hl⟩
    rw [rs_len B, leasts_eq] at hl
    exact k H' L s5 hL hl
/-! ### together -/
def allLack (a : Abs) (t : Nat) : Nat := allWant a t - allCome a t
theorem sc_Day_all_lacking_behind : FnScope ["self", "minute"] ["self", "minute"] (defScope s_Day_all_lacking_behind) := ⟨rfl, rfl, rfl, by decide +kernel, rfl, by decide +kernel, by decide +kernel⟩
theorem ok_Day_all_lacking_behind (T : Txt K mg A) : FnOk P w K mg base CX0 3 A.f_Day_all_lacking_behind A.d_Day_all_lacking_behind ["self", "minute"] (spD1 A fun a t => (allLack a t : Int)) := by
  refine T.F_Day_all_lacking_behind.ok sc_Day_all_lacking_behind spD1_len fun cdv A' outer s H vs Q E hr h => ?_
  obtain ⟨D, a, t, rfl, B, k⟩ := h
  obtain ⟨dx, ob⟩ := B.ob
  refine ⟨_, (pss_one (ps_ret (pe_callB (call_max2 rfl) rfl T.z_max boot_max (pa_cons pe_int (pa_cons (pe_op op_sub (pe_meth (pv 0) T.cl_Day T.m_Day_all_wanted_up_to (ok_Day_all_wanted_up_to T) (hr.mono (by decide)) T.b_Day_all_wanted_up_to .nil pass0 (pa_cons (pv 1) pa_nil)) (pe_meth (pv 0) T.cl_Day T.m_Day_all_brought_up_to (ok_Day_all_brought_up_to T) (hr.mono (by decide)) T.b_Day_all_brought_up_to .nil pass0 (pa_cons (pv 1) pa_nil))) pa_nil))))), ?_⟩
  refine ⟨_, rfl, D.d, dx, _, rfl, ob, rfl, _, rfl, D, a, t, rfl, B, fun H1 s1 => ?_⟩
  refine ⟨_, rfl, D.d, dx, _, rfl, s1 _ _ ob, rfl, _, rfl, D, a, t, rfl, B.same s1, fun H2 s2 => ?_⟩
  refine ⟨_, _, rfl, rfl, _, _, rfl, ?_⟩
  have e : (if (allWant a t : Int) - (allCome a t : Int) > 0 then (allWant a t : Int) - (allCome a t : Int) else 0) = (allLack a t : Int) := by
    unfold allLack
    split <;> omega
  show Q (V.int (if _ then _ else _)) H2
  rw [e]
  exact k H2 (s1.trans s2)
theorem sc_Day_least_together : FnScope ["self", "minute"] ["self"] (defScope s_Day_least_together) := ⟨rfl, rfl, rfl, by decide +kernel, rfl, by decide +kernel, by decide +kernel⟩
theorem ok_Day_least_together (T : Txt K mg A) : FnOk P w K mg base CX0 4 A.f_Day_least_together A.d_Day_least_together ["self"] (spD0 A fun a => ((Kh342.together a : Nat) : Int)) := by
  refine T.F_Day_least_together.ok sc_Day_least_together spD0_len fun cdv A' outer s H vs Q E hr h => ?_
  obtain ⟨D, a, rfl, B, k⟩ := h
  obtain ⟨dx, ob⟩ := B.ob
  obtain ⟨hd1, hd2⟩ := B.ok.day a rfl
  refine ⟨_, (pss_one (ps_ret (pe_callB (cr_max rfl) rfl T.z_max boot_max (pa_cons (pe_lc (own := [("minute", 1)])  rfl sc_Day_least_together.nd (pi_range1 rfl T.z_range (pa_cons (pe_fld (pv 0) rfl) pa_nil)) (blkOk_by (by rfl)) (fun _ _ _ _ _ => (pg_name (i := 1) sc_Day_least_together.nd rfl (Or.inl rfl))) (fun _ _ _ _ _ => pts_nil) (fun _ _ _ _ _ => (pe_meth (pv 0) T.cl_Day T.m_Day_all_lacking_behind (ok_Day_all_lacking_behind T) (hr.mono (by decide)) T.b_Day_all_lacking_behind .nil pass0 (pa_cons (pv 1) pa_nil)))) pa_nil)))), ?_⟩
  refine ⟨_, rfl, D.d, A.C_Day, dx, _, _, rfl, ob, T.cl_Day, T.n_Day_minutes, df_minutes, _, rfl, (by show -(2 ^ 62) ≤ (a.day : Int); omega), (by show (a.day : Int) < 2 ^ 62; omega),
    fun L hL => lc_range (lo := 0) (n := a.day) (fun i H' => Same H H' ∧ H' L = some (.lst (((List.range i).map fun t => (allLack a t : Int)).map V.int))) ⟨same_new hL _, upd_same⟩ ?_ ?_⟩
  · rintro i H' hi ⟨s5, hl⟩
    refine ⟨rfl, ?_⟩
    refine ⟨_, rfl, D.d, dx, _, rfl, s5 _ _ ob, rfl, _, rfl, D, a, i, (by show [V.ref D.d, V.int (0 + (i : Int))] = _; rw [Int.zero_add]), B.same s5, fun H2 s2 => ?_⟩
    refine ⟨_, s2 _ _ hl, by rw [len_range]; exact small400 (by omega), same_put (s5.trans s2) hL _, ?_⟩
    rw [upd_same, range_snoc, List.map_append]
    rfl
  · rintro H' ⟨s5, hl⟩
    refine ⟨L, _, rfl, SqL.of hl, by simp; omega, fun m hm hy => ?_⟩
    obtain ⟨t, ht, rfl⟩ := List.mem_map.mp hm
    have e : Kh342.together a = allLack a t := CupMath.together_eq (List.mem_range.mp ht) rfl fun s hs => by
      have := hy _ (List.mem_map.mpr ⟨s, List.mem_range.mpr hs, rfl⟩)
      have : allLack a s ≤ allLack a t := by omega
      exact this
    show Q (V.int _) H'
    rw [← e]
    exact k H' s5
/-! ### enough -/
theorem sc_Day_tables_too_short : FnScope ["self", "k", "needed"] ["self"] (defScope s_Day_tables_too_short) := ⟨rfl, rfl, rfl, by decide +kernel, rfl, by decide +kernel, by decide +kernel⟩
theorem ok_Day_tables_too_short (T : Txt K mg A) : FnOk P w K mg base CX0 5 A.f_Day_tables_too_short A.d_Day_tables_too_short ["self"] (spDL A fun a => nums (tooFew a a.tables.length)) := by
  refine T.F_Day_tables_too_short.ok sc_Day_tables_too_short spDL_len fun cdv A' outer s H vs Q E hr h => ?_
  obtain ⟨D, a, rfl, B, k⟩ := h
  obtain ⟨dx, ob⟩ := B.ob
  have ls := B.ls
  have few : a.tables.length ≤ 5 := B.ok.few
  refine ⟨_, (pss_one (ps_ret (pe_lc (own := [("k", 1), ("needed", 2)]) (g := (gTup K 2 (gCons _ (gCons _ gNil)))) (tt := (tTest (tOp _ _ (tFld K (tOp (rIxL K) (tFld K _ _) _) _)))) rfl sc_Day_tables_too_short.nd (pi_enum rfl T.z_enumerate (pa_cons (pe_meth0 (pv 0) T.cl_Day T.m_Day_leasts (ok_Day_leasts T) (hr.mono (by decide)) T.b_Day_leasts .nil pass0) pa_nil)) (blkOk_by (by rfl)) (fun _ _ _ _ _ => (pg_tup rfl (pgs_cons (pg_name (i := 1) sc_Day_tables_too_short.nd rfl (Or.inl rfl)) (pgs_cons (pg_name (i := 2) sc_Day_tables_too_short.nd rfl (Or.inl rfl)) pgs_nil)))) (fun _ _ _ _ _ => (pts_one (pt_cmpR op_gt (pv 2) (pe_fld (pe_ix ix_list (pe_fld (pv 0) rfl) (pv 1) (fun _ _ => rfl)) rfl) (nomark _)))) (fun _ _ _ _ _ => (pv 1))))), ?_⟩
  refine ⟨_, rfl, D.d, dx, _, rfl, ob, rfl, D, a, rfl, B, fun H1 p1 s1 hp1 hl1 => ?_⟩
  refine ⟨p1, _, rfl, SqL.of hl1, fun L hL => lc_enum (K := K) (a := p1) (xs := (leasts a).map V.int)
    (fun i H' => Same H1 H' ∧ H' L = some (.lst ((nums (tooFew a i)).map V.int))) ⟨same_new hL _, upd_same⟩ (fun i H' _ ⟨s5, _⟩ => SqL.of (s5 _ _ hl1)) ?_ ?_⟩
  · rintro i y Tp H' hi hTp ⟨s5, hl⟩
    have hi2 : i < a.tables.length := by
      have := (List.getElem?_eq_some_iff.mp hi).1
      rw [List.length_map, leasts_len] at this
      exact this
    have hx : a.tables[i]? = some a.tables[i] := List.getElem?_eq_getElem hi2
    have hrl : D.rs.length = a.tables.length := Paired.len B.tb
    have hrs : D.rs[i]? = some (D.rs[i]'(by omega)) := List.getElem?_eq_getElem (by omega)
    have hT := B.tbl hrs hx
    obtain ⟨⟨dt, ho⟩, _, _, _⟩ := id hT
    have ey := leasts_at hx hi
    subst ey
    have s6 : Same H (upd H' Tp (.tup [.int (i : Nat), .int ((Kh342.least a.day a.tables[i] : Nat) : Int)])) := same_newT (s1.trans s5) hTp _
    have s7 : Same H1 (upd H' Tp (.tup [.int (i : Nat), .int ((Kh342.least a.day a.tables[i] : Nat) : Int)])) := same_newT s5 hTp _
    have hl6 : (upd H' Tp (.tup [.int (i : Nat), .int ((Kh342.least a.day a.tables[i] : Nat) : Int)])) L = some (.lst ((nums (tooFew a i)).map V.int)) := same_new hTp _ _ _ hl
    refine ⟨Tp, _, rfl, SqT.of upd_same, rfl, _, _, rfl, _, _, rfl, rfl, rfl, ?_⟩
    refine ⟨_, rfl, _, rfl, D.d, A.C_Day, dx, _, _, rfl, s6 _ _ ob, T.cl_Day, T.n_Day_tables, df_tables, _, rfl, D.lt, _, _, V.ref (D.rs[i]'(by omega)).a, rfl, rfl, SqL.of (s6 _ _ ls), at_of (j := i) rfl (by rw [List.getElem?_map, hrs]; rfl),
      _, A.C_Table, dt, _, _, rfl, s6 _ _ ho, T.cl_Table, T.n_Table_stock, tf_stock, _, _, rfl, rfl, _, rfl, ?_⟩
    refine ite2 (fun h1 => ?_) (fun h1 => ?_)
    · have h1 : (a.tables[i].stock : Int) < ((Kh342.least a.day a.tables[i] : Nat) : Int) := of_decide_eq_true h1
      refine ⟨_, rfl, _, hl6, by rw [nums_len]; exact small400 (Nat.le_trans (CupMath.tooFew_len a i) (by omega)), same_put s7 hL _, ?_⟩
      rw [upd_same, CupMath.tooFew_yes hx (by omega), nums_snoc]
    · have h1 : ¬ (a.tables[i].stock : Int) < ((Kh342.least a.day a.tables[i] : Nat) : Int) := fun z => h1 (decide_eq_true z)
      refine ⟨s7, ?_⟩
      rw [CupMath.tooFew_no hx (by omega)]
      exact hl6
  · rintro H' ⟨s5, hl⟩
    rw [List.length_map, leasts_len] at hl
    exact k H' L (s1.trans s5) (s1.free hL) hl
/-! ### steps and level -/
def isLevel (a : Abs) : Bool := decide (allStock a = Kh342.apart a)
theorem sc_Day_can_be_level : FnScope ["self"] ["self"] (defScope s_Day_can_be_level) := ⟨rfl, rfl, rfl, by decide +kernel, rfl, by decide +kernel, by decide +kernel⟩
theorem ok_Day_can_be_level (T : Txt K mg A) : FnOk P w K mg base CX0 5 A.f_Day_can_be_level A.d_Day_can_be_level ["self"] (spDB A isLevel) := by
  refine T.F_Day_can_be_level.ok sc_Day_can_be_level spDB_len fun cdv A' outer s H vs Q E hr h => ?_
  obtain ⟨D, a, rfl, B, k⟩ := h
  obtain ⟨dx, ob⟩ := B.ob
  refine ⟨_, (pss_one (ps_ret (pe_cmpR op_eq (pe_meth0 (pv 0) T.cl_Day T.m_Day_all_stock (ok_Day_all_stock T) (hr.mono (by decide)) T.b_Day_all_stock .nil pass0) (pe_callB (cr_sum rfl) rfl T.z_sum boot_sum (pa_cons (pe_meth0 (pv 0) T.cl_Day T.m_Day_leasts (ok_Day_leasts T) (hr.mono (by decide)) T.b_Day_leasts .nil pass0) pa_nil)) (nomark _)))), ?_⟩
  refine ⟨_, rfl, D.d, dx, _, rfl, ob, rfl, D, a, rfl, B, fun H1 s1 => ?_⟩
  refine ⟨_, rfl, D.d, dx, _, rfl, s1 _ _ ob, rfl, D, a, rfl, B.same s1, fun H2 p2 s2 hp2 hl2 => ?_⟩
  refine ⟨p2, _, rfl, SqL.of hl2, rfl, ?_⟩
  have e : decide (V.int (allStock a : Int) = V.int (leasts a).sum) = isLevel a := by
    unfold isLevel
    rw [leasts_sum]
    refine decide_eq_decide.mpr ⟨fun z => ?_, fun z => by rw [z]⟩
    have := V.int.inj z
    omega
  show Q (V.bl (decide _)) H2
  rw [e]
  exact k H2 (s1.trans s2)
theorem cut_last (xs : List V) : cutV xs none (some (-1)) = xs.take (xs.length - 1) := by
  have e1 : HT.sIx xs.length 0 none = 0 := rfl
  have e2 : HT.sIx xs.length xs.length (some (-1)) = xs.length - 1 := by
    show (if (-1 : Int) < 0 then ((-1 : Int) + (xs.length : Int)).toNat else min (-1 : Int).toNat xs.length) = _
    rw [if_pos (by decide)]
    omega
  unfold cutV
  rw [e1, e2]
  rfl
theorem sc_Day_over_gaps : FnScope ["self", "more", "gaps", "table", "needed"] ["self"] (defScope s_Day_over_gaps) := ⟨rfl, rfl, rfl, by decide +kernel, rfl, by decide +kernel, by decide +kernel⟩
theorem ok_Day_over_gaps (T : Txt K mg A) : FnOk P w K mg base CX0 5 A.f_Day_over_gaps A.d_Day_over_gaps ["self"] (spDL A Kh342.gaps) := by
  refine T.F_Day_over_gaps.ok sc_Day_over_gaps spDL_len fun cdv A' outer s H vs Q E hr h => ?_
  obtain ⟨D, a, rfl, B, k⟩ := h
  obtain ⟨dx, ob⟩ := B.ob
  have ls := B.ls
  have few : a.tables.length ≤ 5 := B.ok.few
  refine ⟨_, (pss_cons (ps_set (i := 1) sc_Day_over_gaps.nd rfl (Or.inl rfl) pe_int)
      (pss_cons (ps_set (i := 2) sc_Day_over_gaps.nd rfl (Or.inl rfl) (pe_lst pa_nil))
      (pss_cons (ps_for PassesOwn.never rfl (pi_zip rfl T.z_zip (pa_cons (pe_fld (pv 0) rfl) (pa_cons (pe_meth0 (pv 0) T.cl_Day T.m_Day_leasts (ok_Day_leasts T) (hr.mono (by decide)) T.b_Day_leasts .nil pass0) pa_nil))) (pg_tup rfl (pgs_cons (pg_name (i := 3) sc_Day_over_gaps.nd rfl (Or.inl rfl)) (pgs_cons (pg_name (i := 4) sc_Day_over_gaps.nd rfl (Or.inl rfl)) pgs_nil)))
        (pss_cons (ps_aug (i := 1) sc_Day_over_gaps.nd rfl (Or.inl rfl) (pe_op op_sub (pe_fld (pv 3) rfl) (pv 4)) ip_add)
        (pss_one (ps_expr (pe_bm PySem.F.plainAttrs_list PySem.F.slot_list_append PySem.F.type_list_append mt_append (pv 2) (pa_cons (pv 1) pa_nil))))))
      (pss_one (ps_ret (pe_slice sl_list (pv 2) po_none (po_some (pe_un un_neg pe_int)))))))), ?_⟩
  refine ⟨Nat.zero_le _, fun L hL => ?_⟩
  have s0 : Same H (upd H L (.lst [])) := same_new hL _
  refine ⟨_, rfl, D.d, A.C_Day, dx, _, _, rfl, s0 _ _ ob, T.cl_Day, T.n_Day_tables, df_tables, _, rfl, D.d, dx, _, rfl, s0 _ _ ob, rfl, D, a, rfl, B.same s0, fun H1 p1 s1 hp1 hl1 => ?_⟩
  have nL : p1 ≠ L := fun z => by rw [z, upd_same] at hp1; cases hp1
  refine ⟨D.lt, p1, _, _, rfl, SqL.of (s1 _ _ (s0 _ _ ls)), SqL.of hl1, for_zip (K := K) (a := D.lt) (b := p1) (xs := D.rs.map fun r => V.ref r.a) (ys := (leasts a).map V.int) (by rw [rs_len B, List.length_map, leasts_len])
    (fun i σ H' => ∃ v3 v4 : Option V, σ = [some (.ref D.d), some (.int (gapTo a i)), some (.ref L), v3, v4] ∧ Same H H' ∧ H' L = some (.lst ((gapsTo a i).map V.int)) ∧ H' p1 = some (.lst ((leasts a).map V.int)))
    ⟨none, none, rfl, s0.trans s1, s1 _ _ upd_same, hl1⟩ (fun i σ H' _ ⟨_, _, _, s5, _, h5⟩ => ⟨SqL.of (s5 _ _ ls), SqL.of h5⟩) ?_ ?_⟩
  · rintro i y z Tp σ H' hi hz hTp ⟨v3, v4, rfl, s5, hl, h5⟩
    obtain ⟨r, x, hr', hx, rfl, hT⟩ := rs_at B hi
    obtain ⟨⟨dt, ho⟩, _, _, _⟩ := id hT
    have ey := leasts_at hx hz
    subst ey
    have s6 : Same H' (upd H' Tp (.tup [.ref r.a, .int ((Kh342.least a.day x : Nat) : Int)])) := same_new hTp _
    have hi2 : i < a.tables.length := (List.getElem?_eq_some_iff.mp hx).1
    refine ⟨Tp, _, rfl, SqT.of upd_same, rfl, _, _, rfl, _, _, rfl, rfl, ?_⟩
    refine ⟨_, rfl, _, rfl, r.a, A.C_Table, dt, _, _, rfl, s6 _ _ (s5 _ _ ho), T.cl_Table, T.n_Table_stock, tf_stock, _, rfl, _, _, rfl, rfl, _, _, rfl, rfl, ?_⟩
    refine ⟨_, rfl, .inl ⟨rfl, _, SqL.of (s6 _ _ hl)⟩, _, rfl, L, _, _, rfl, rfl, s6 _ _ hl, (by rw [List.length_map, CupMath.gapsTo_len]; exact small400 (by omega)), ?_⟩
    refine ⟨some (.ref r.a), some (.int ((Kh342.least a.day x : Nat) : Int)), by rw [CupMath.gapTo_succ hx]; rfl, same_put (s5.trans s6) hL _, ?_, ?_⟩
    · rw [upd_same, CupMath.gapsTo_succ, CupMath.gapTo_succ hx, List.map_append]
      rfl
    · rw [upd_ne nL]
      exact s6 _ _ h5
  · rintro σ H' ⟨v3, v4, rfl, s5, hl, h5⟩
    refine ⟨_, rfl, _, rfl, _, rfl, L, _, rfl, SqL.of hl, fun p hp => ?_⟩
    have e : cutV ((gapsTo a (D.rs.map fun r => V.ref r.a).length).map V.int) none (some (-1)) = (Kh342.gaps a).map V.int := by
      rw [cut_last, List.length_map, rs_len B, CupMath.gapsTo_len, ← List.map_take, CupMath.gaps_take]
    refine k _ p (same_newT s5 hp _) (s5.free hp) ?_
    rw [upd_same]
    exact congrArg (fun q => some (HO.lst q)) e
/-- every table gets its least -/
def spLevel (A : Ad) : Sp := fun vs H Q _ => ∃ (D : DR) (a : Abs), vs = [.ref D.d] ∧ DayAt A H D (some a) ∧ ∀ H' : Hp, DayAt A H' D (some { a with tables := a.tables.map fun x => { x with stock := Kh342.least a.day x } }) → (∀ b o, H b = some o → b ∉ D.foot → H' b = some o) → Q .non H'
theorem sc_Day_make_level : FnScope ["self", "table", "needed"] ["self"] (defScope s_Day_make_level) := ⟨rfl, rfl, rfl, by decide +kernel, rfl, by decide +kernel, by decide +kernel⟩
theorem ok_Day_make_level (T : Txt K mg A) : FnOk P w K mg base CX0 5 A.f_Day_make_level A.d_Day_make_level ["self"] (spLevel A) := by
  refine T.F_Day_make_level.ok sc_Day_make_level (fun vs H Q E h => ?_) fun cdv A' outer s H vs Q E hr h => ?_
  · obtain ⟨D, a, rfl, _⟩ := h
    rfl
  obtain ⟨D, a, rfl, B, k⟩ := h
  obtain ⟨dx, ob⟩ := B.ob
  have ls := B.ls
  refine ⟨_, (pss_one (ps_for PassesOwn.never rfl (pi_zip rfl T.z_zip (pa_cons (pe_fld (pv 0) rfl) (pa_cons (pe_meth0 (pv 0) T.cl_Day T.m_Day_leasts (ok_Day_leasts T) (hr.mono (by decide)) T.b_Day_leasts .nil pass0) pa_nil))) (pg_tup rfl (pgs_cons (pg_name (i := 1) sc_Day_make_level.nd rfl (Or.inl rfl)) (pgs_cons (pg_name (i := 2) sc_Day_make_level.nd rfl (Or.inl rfl)) pgs_nil)))
        (pss_one (ps_fld (pv 1) (pv 2) rfl)))), ?_⟩
  refine ⟨_, rfl, D.d, A.C_Day, dx, _, _, rfl, ob, T.cl_Day, T.n_Day_tables, df_tables, _, rfl, D.d, dx, _, rfl, ob, rfl, D, a, rfl, B, fun H1 p1 s1 hp1 hl1 => ?_⟩
  have np1 : p1 ∉ D.foot := fun z => by
    obtain ⟨o, ho, _⟩ := foot_all B p1 z
    rw [hp1] at ho
    cases ho
  refine ⟨D.lt, p1, _, _, rfl, SqL.of (s1 _ _ ls), SqL.of hl1, for_zip (K := K) (a := D.lt) (b := p1) (xs := D.rs.map fun r => V.ref r.a) (ys := (leasts a).map V.int) (by rw [rs_len B, List.length_map, leasts_len])
    (fun i σ H' => ∃ v1 v2 : Option V, σ = [some (.ref D.d), v1, v2] ∧ DayAt A H' D (some { a with tables := levTo a i }) ∧ ∀ b o, H1 b = some o → b ∉ D.foot → H' b = some o)
    ⟨none, none, rfl, B.same s1, fun b o e _ => e⟩ (fun i σ H' _ ⟨_, _, _, B5, k5⟩ => ⟨SqL.of B5.ls, SqL.of (k5 _ _ hl1 np1)⟩) ?_ ?_⟩
  · rintro i y z Tp σ H' hi hz hTp ⟨v1, v2, rfl, B5, k5⟩
    obtain ⟨r, x0, hr', hx0, rfl, _⟩ := rs_at B hi
    obtain ⟨hx, hstep⟩ := CupMath.levTo_at hx0
    have ey := leasts_at hx0 hz
    subst ey
    have s6 : Same H' (upd H' Tp (.tup [.ref r.a, .int ((Kh342.least a.day x0 : Nat) : Int)])) := same_new hTp _
    have B6 := B5.same s6
    obtain ⟨⟨dt, ho⟩, ⟨ap, hp, pp⟩, ⟨ad, hd, pd⟩, g⟩ := B6.tbl hr' hx
    obtain ⟨na1, na2, na3⟩ := parts_ne B.nd hr'
    refine ⟨Tp, _, rfl, SqT.of upd_same, rfl, _, _, rfl, _, _, rfl, rfl, ?_⟩
    refine ⟨_, rfl, _, rfl, r.a, A.C_Table, dt, _, rfl, ho, T.cl_Table, T.n_Table_stock, (by show 4 < 1000; decide), ?_⟩
    have kp : ∀ b o, (upd H' Tp (.tup [.ref r.a, .int ((Kh342.least a.day x0 : Nat) : Int)])) b = some o → b ≠ r.a → (upd (upd H' Tp (.tup [.ref r.a, .int ((Kh342.least a.day x0 : Nat) : Int)])) r.a (.ins A.C_Table dt (putF "stock" (V.int ((Kh342.least a.day x0 : Nat) : Int)) (tf x0.takes x0.stock r.lp r.ld)))) b = some o := fun b o e hb => by
      rw [upd_ne hb]
      exact e
    refine ⟨some (.ref r.a), some (.int ((Kh342.least a.day x0 : Nat) : Int)), rfl, ?_, fun b o e hb => kp b o (s6 _ _ (k5 b o e hb)) fun z => hb (z ▸ in_foot hr' (mem_a r))⟩
    rw [hstep]
    refine DayAt.step (x' := lev a.day x0) B6 hr' hx (mem_a r) kp ⟨⟨dt, ?_⟩, ⟨ap, kp _ _ hp na1.symm, Paired.imp (fun b y hb => kp _ _ hb (ne_tup ho trivial hb)) pp⟩, ⟨ad, kp _ _ hd na2.symm, Paired.imp (fun b y hb => kp _ _ hb (ne_tup ho trivial hb)) pd⟩, ⟨g.takes, g.passes, g.many, g.brought⟩⟩ (B.ok.late x0 (List.mem_of_getElem? hx0))
    rw [upd_same]
    exact congrArg (fun q => some (HO.ins A.C_Table dt q)) tf_put
  · rintro σ H' ⟨v1, v2, rfl, B5, k5⟩
    rw [rs_len B, CupMath.levTo_all] at B5
    exact k H' B5 fun b o e hb => k5 b o (s1 _ _ e) hb
/-! ### steps_over -/
def spSteps : Sp := fun vs H Q _ => ∃ (p : Addr) (l : List Int), vs = [.ref p] ∧ H p = some (.lst (l.map V.int)) ∧ l.length ≤ 400 ∧ ∀ H' : Hp, Same H H' → Q (.int (((l.map Int.natAbs).sum : Nat) : Int)) H'
theorem sc_steps_over : FnScope ["gaps", "more"] ["gaps"] (defScope s_steps_over) := ⟨rfl, rfl, rfl, by decide +kernel, rfl, by decide +kernel, by decide +kernel⟩
theorem ok_steps_over (T : Txt K mg A) : FnOk P w K mg base CX0 1 A.f_steps_over A.d_steps_over ["gaps"] (spSteps) := by
  refine T.F_steps_over.ok sc_steps_over (fun vs H Q E h => ?_) fun cdv A' outer s H vs Q E hr h => ?_
  · obtain ⟨p, l, rfl, _⟩ := h
    rfl
  obtain ⟨p, l, rfl, hp, hlen, k⟩ := h
  refine ⟨_, (pss_one (ps_ret (pe_callB (cr_sum rfl) rfl T.z_sum boot_sum (pa_cons (pe_lc (own := [("more", 1)])  rfl sc_steps_over.nd (pi_list (pv 0)) (blkOk_by (by rfl)) (fun _ _ _ _ _ => (pg_name (i := 1) sc_steps_over.nd rfl (Or.inl rfl))) (fun _ _ _ _ _ => pts_nil) (fun _ _ _ _ _ => (pe_callB call_abs rfl T.z_abs boot_abs (pa_cons (pv 1) pa_nil)))) pa_nil)))), ?_⟩
  refine ⟨_, rfl, p, rfl, ⟨_, SqL.of hp⟩, fun L hL => lc_list (K := K) (a := p) (xs := l.map V.int)
    (fun i H' => Same H H' ∧ H' L = some (.lst (((l.take i).map CupMath.absI).map V.int))) ⟨same_new hL _, upd_same⟩ (fun i H' _ ⟨s5, _⟩ => SqL.of (s5 _ _ hp)) ?_ ?_⟩
  · rintro i y H' hi ⟨s5, hl⟩
    obtain ⟨z, hz, rfl⟩ := map_at hi
    refine ⟨rfl, ?_⟩
    refine ⟨_, rfl, _, rfl, _, hl, (by rw [List.length_map, List.length_map, List.length_take]; exact small400 (by omega)), same_put s5 hL _, ?_⟩
    rw [upd_same, take_snoc hz, List.map_append, List.map_append]
    rfl
  · rintro H' ⟨s5, hl⟩
    refine ⟨L, _, rfl, SqL.of hl, ?_⟩
    have e : ((l.take (l.map V.int).length).map CupMath.absI).sum = (((l.map Int.natAbs).sum : Nat) : Int) := by
      rw [List.length_map, List.take_length, CupMath.abs_sum]
    rw [e]
    exact k H' s5
end
end Cup
end

section
set_option Elab.async false
set_option linter.all false
set_option maxRecDepth 100000
set_option maxHeartbeats 4000000
/-! The later calls. -/
namespace Cup
open PySem PySem.Spec PyProof.Rows L2
open Kh342 (Pass Table Abs upTo doing nums)
open CupMath (tooFew)
/-- [z] + l, both new -/
theorem readsCat {A : Ad} {H H' : Hp} {D : DR} {s : Option Abs} {c : Kh342.Call} {Q : VK} {z : Int} {l : List Int} (B : DayAt A H D s) (k : Ret A H D (doing s c).1 (ansOf (doing s c)) Q) (q : Same H H') (e : doing s c = (s, ⟨z, l⟩)) {p : Addr} (hp : H' p = none) :
    Q (.ref p) (upd H' p (.lst ([.int z] ++ l.map V.int))) := reads B k q e hp
section
variable {P : Program} {w : World} {K : PySem.W.Frag} {mg : Str → Option Value} {base : Heap} {A : Ad}
/-! ### enough, apart, together -/
def mkEnough : Option Abs → List Nat → Kh342.Call → Prop := fun s args c => ∃ a, s = some a ∧ args = [] ∧ c = .enough
theorem sc_enough : FnScope ["day", "numbers", "lacking"] ["day", "numbers"] (defScope s_enough) := ⟨rfl, rfl, rfl, by decide +kernel, rfl, by decide +kernel, by decide +kernel⟩
theorem ok_enough (T : Txt K mg A) : FnOk P w K mg base CX0 6 A.f_enough A.d_enough ["day", "numbers"] (spDay A mkEnough) := by
  refine T.F_enough.ok sc_enough spDay_len fun cdv A' outer s0 H vs Q E hr h => ?_
  obtain ⟨D, s, ln, args, c, rfl, B, hln, ⟨a, rfl, rfl, rfl⟩, k⟩ := h
  obtain ⟨dx, ob⟩ := B.ob
  have few : a.tables.length ≤ 5 := B.ok.few
  have hfew := CupMath.tooFew_len a a.tables.length
  refine ⟨_, (pss_cons (ps_set (i := 2) sc_enough.nd rfl (Or.inl rfl) (pe_meth0 (pv 0) T.cl_Day T.m_Day_tables_too_short (ok_Day_tables_too_short T) (hr.mono (by decide)) T.b_Day_tables_too_short .nil pass0))
      (pss_one (ps_ret (pe_op op_cat (pe_lst (pa_cons (pe_callB call_len_seq rfl T.z_len boot_len (pa_cons (pv 2) pa_nil)) pa_nil)) (pv 2))))), ?_⟩
  refine ⟨_, rfl, D.d, dx, _, rfl, ob, rfl, D, a, rfl, B, fun H1 p s1 hp hl => ?_⟩
  refine ⟨_, rfl, p, _, rfl, .inl (SqL.of hl), (by show 1 ≤ sizeLine; decide), fun q hq => ?_⟩
  refine ⟨_, rfl, q, p, _, _, rfl, rfl, upd_same, (by rw [upd_ne (ne_of_none hl hq)]; exact hl), (by rw [nums_len]; exact small400' (by show 1 + _ ≤ 400; omega)), fun u hu => ?_⟩
  have e : doing (some a) .enough = (some a, ⟨((((nums (tooFew a a.tables.length)).map V.int).length : Nat) : Int), nums (tooFew a a.tables.length)⟩) := by
    rw [CupMath.do_enough', nums_len]
  exact readsCat B k (same_newT s1 hq _) e hu
def mkApart : Option Abs → List Nat → Kh342.Call → Prop := fun s args c => ∃ a, s = some a ∧ args = [] ∧ c = .apart
theorem sc_apart : FnScope ["day", "numbers", "leasts"] ["day", "numbers"] (defScope s_apart) := ⟨rfl, rfl, rfl, by decide +kernel, rfl, by decide +kernel, by decide +kernel⟩
theorem ok_apart (T : Txt K mg A) : FnOk P w K mg base CX0 5 A.f_apart A.d_apart ["day", "numbers"] (spDay A mkApart) := by
  refine T.F_apart.ok sc_apart spDay_len fun cdv A' outer s0 H vs Q E hr h => ?_
  obtain ⟨D, s, ln, args, c, rfl, B, hln, ⟨a, rfl, rfl, rfl⟩, k⟩ := h
  obtain ⟨dx, ob⟩ := B.ob
  have few : a.tables.length ≤ 5 := B.ok.few
  refine ⟨_, (pss_cons (ps_set (i := 2) sc_apart.nd rfl (Or.inl rfl) (pe_meth0 (pv 0) T.cl_Day T.m_Day_leasts (ok_Day_leasts T) (hr.mono (by decide)) T.b_Day_leasts .nil pass0))
      (pss_one (ps_ret (pe_op op_cat (pe_lst (pa_cons (pe_callB (cr_sum rfl) rfl T.z_sum boot_sum (pa_cons (pv 2) pa_nil)) pa_nil)) (pv 2))))), ?_⟩
  refine ⟨_, rfl, D.d, dx, _, rfl, ob, rfl, D, a, rfl, B, fun H1 p s1 hp hl => ?_⟩
  refine ⟨_, rfl, p, _, rfl, SqL.of hl, (by show 1 ≤ sizeLine; decide), fun q hq => ?_⟩
  refine ⟨_, rfl, q, p, _, _, rfl, rfl, upd_same, (by rw [upd_ne (ne_of_none hl hq)]; exact hl), (by rw [List.length_map, leasts_len]; exact small400' (by show 1 + _ ≤ 400; omega)), fun u hu => ?_⟩
  have e : doing (some a) .apart = (some a, ⟨(leasts a).sum, leasts a⟩) := by
    rw [leasts_sum]
    rfl
  exact readsCat B k (same_newT s1 hq _) e hu
def mkTogether : Option Abs → List Nat → Kh342.Call → Prop := fun s args c => ∃ a, s = some a ∧ args = [] ∧ c = .together
theorem sc_together : FnScope ["day", "numbers"] ["day", "numbers"] (defScope s_together) := ⟨rfl, rfl, rfl, by decide +kernel, rfl, by decide +kernel, by decide +kernel⟩
theorem ok_together (T : Txt K mg A) : FnOk P w K mg base CX0 5 A.f_together A.d_together ["day", "numbers"] (spDay A mkTogether) := by
  refine T.F_together.ok sc_together spDay_len fun cdv A' outer s0 H vs Q E hr h => ?_
  obtain ⟨D, s, ln, args, c, rfl, B, hln, ⟨a, rfl, rfl, rfl⟩, k⟩ := h
  obtain ⟨dx, ob⟩ := B.ob
  refine ⟨_, (pss_one (ps_ret (pe_lst (pa_cons (pe_meth0 (pv 0) T.cl_Day T.m_Day_least_together (ok_Day_least_together T) (hr.mono (by decide)) T.b_Day_least_together .nil pass0) (pa_cons (pe_meth0 (pv 0) T.cl_Day T.m_Day_all_stock (ok_Day_all_stock T) (hr.mono (by decide)) T.b_Day_all_stock .nil pass0) pa_nil))))), ?_⟩
  refine ⟨_, rfl, D.d, dx, _, rfl, ob, rfl, D, a, rfl, B, fun H1 s1 => ?_⟩
  refine ⟨_, rfl, D.d, dx, _, rfl, s1 _ _ ob, rfl, D, a, rfl, B.same s1, fun H2 s2 => ?_⟩
  refine ⟨(by show 2 ≤ sizeLine; decide), fun p hp => ?_⟩
  exact reads (l := [(allStock a : Int)]) B k (s1.trans s2) rfl hp
/-! ### latest, fewest -/
def mkLatest : Nat → List Nat → Kh342.Call → Prop := fun j args c => ∃ n, args = [n] ∧ c = .latest j n
theorem sc_latest : FnScope ["day", "table", "numbers", "cups", "missing"] ["day", "table", "numbers"] (defScope s_latest) := ⟨rfl, rfl, rfl, by decide +kernel, rfl, by decide +kernel, by decide +kernel⟩
theorem ok_latest (T : Txt K mg A) : FnOk P w K mg base CX0 4 A.f_latest A.d_latest ["day", "table", "numbers"] (spTab A mkLatest) := by
  refine T.F_latest.ok sc_latest spTab_len fun cdv A' outer s0 H vs Q E hr h => ?_
  obtain ⟨D, a, j, r, x, ln, args, c, rfl, B, hrs, hx, hln, ⟨n, rfl, rfl⟩, k⟩ := h
  obtain ⟨dx, ob⟩ := B.ob
  have BT := B.tbl hrs hx
  obtain ⟨⟨dt, ho⟩, _, _, g⟩ := id BT
  obtain ⟨hd1, hd2⟩ := B.ok.day a rfl
  refine ⟨_, (pss_cons (ps_set (i := 3) sc_latest.nd rfl (Or.inl rfl) (pe_ix ix_list (pv 2) pe_int (fun _ _ => rfl)))
      (pss_cons (ps_if (pt_not (pt_chain op_le op_le pe_int (pv 3) (pe_gint rfl T.c_MOST_CUPS))) (pss_one (ps_ret (pe_lst (pa_cons (pe_gint rfl T.c_NOT_AS_TOLD) pa_nil)))) pss_nil)
      (pss_cons (ps_set (i := 4) sc_latest.nd rfl (Or.inl rfl) (pe_op op_sub (pe_meth (pv 1) T.cl_Table T.m_Table_least_needed (ok_Table_least_needed T) (hr.mono (by decide)) T.b_Table_least_needed .nil pass0 (pa_cons (pe_fld (pv 0) rfl) pa_nil)) (pe_fld (pv 1) rfl)))
      (pss_cons (ps_if (pt_cmpR op_gt (pv 4) (pv 3) (nomark _)) (pss_one (ps_ret (pe_lst (pa_cons (pe_gint rfl T.c_CANNOT_BE) pa_nil)))) pss_nil)
      (pss_cons (ps_if (pt_cmpR op_le (pv 4) pe_int (nomark _)) (pss_one (ps_ret (pe_lst (pa_cons (pe_op op_sub (pe_fld (pv 0) rfl) pe_int) pa_nil)))) pss_nil)
      (pss_one (ps_ret (pe_lst (pa_cons (pe_meth (pv 1) T.cl_Table T.m_Table_first_too_few (ok_Table_first_too_few T) (hr.mono (by decide)) T.b_Table_first_too_few .nil pass0 (pa_cons (pe_fld (pv 0) rfl) pa_nil)) pa_nil))))))))), ?_⟩
  refine ⟨_, rfl, ln, _, _, _, rfl, rfl, SqL.of hln, at_of (j := 0) rfl rfl, ?_⟩
  have no : (n < 1 ∨ Kh342.MOST < n) → _ := fun hm => refuse (z := -22) B k (CupMath.do_latest_bad hx hm)
  refine ⟨_, rfl, _, _, rfl, rfl, _, rfl, ?_⟩
  refine ite2 (fun h1 => ?_) (fun h1 => ⟨_, rfl, no (.inl (by apply Classical.byContradiction; intro z; exact h1 (decide_eq_true (by omega))))⟩)
  have h1 := of_decide_eq_true h1
  refine ⟨_, _, rfl, rfl, _, rfl, ?_⟩
  by_cases h3 : (n : Int) ≤ 100000
  case neg =>
    rw [decide_eq_false h3]
    exact no (.inr (by unfold Kh342.MOST; omega))
  rw [decide_eq_true h3]
  have ok1 : ¬ (n < 1 ∨ Kh342.MOST < n) := by unfold Kh342.MOST; omega
  -- missing
  refine ⟨_, rfl, r.a, dt, _, rfl, ho, rfl, _, rfl, D.d, A.C_Day, dx, _, _, rfl, ob, T.cl_Day, T.n_Day_minutes, df_minutes, r, x, a.day, rfl, BT, ⟨hd1, hd2⟩, fun H1 s1 => ?_⟩
  refine ⟨_, rfl, r.a, A.C_Table, dt, _, _, rfl, s1 _ _ ho, T.cl_Table, T.n_Table_stock, tf_stock, _, _, rfl, rfl, ?_⟩
  refine ⟨_, rfl, _, rfl, _, _, rfl, rfl, _, rfl, ?_⟩
  refine ite2 (fun h4 => ?_) (fun h4 => ?_)
  · have h4 : (n : Int) < ((Kh342.least a.day x : Nat) : Int) - (x.stock : Int) := of_decide_eq_true h4
    refine ⟨(by show 1 ≤ sizeLine; decide), fun p hp => ?_⟩
    exact reads (l := []) B k s1 (CupMath.do_latest_none hx ok1 (CupMath.latest_no (by omega))) hp
  have h4 : ¬ (n : Int) < ((Kh342.least a.day x : Nat) : Int) - (x.stock : Int) := fun z => h4 (decide_eq_true z)
  refine ⟨_, rfl, _, _, rfl, rfl, _, rfl, ?_⟩
  refine ite2 (fun h5 => ?_) (fun h5 => ?_)
  · have h5 : ((Kh342.least a.day x : Nat) : Int) - (x.stock : Int) ≤ 0 := of_decide_eq_true h5
    refine ⟨_, rfl, D.d, A.C_Day, dx, _, _, rfl, s1 _ _ ob, T.cl_Day, T.n_Day_minutes, df_minutes, _, _, rfl, rfl, (by show 1 ≤ sizeLine; decide), fun p hp => ?_⟩
    have e : doing (some a) (.latest j n) = (some a, ⟨(a.day : Int) - 1, []⟩) := by
      rw [CupMath.do_latest hx ok1 (CupMath.latest_free hd1 (by omega))]
      have e2 : ((a.day - 1 : Nat) : Int) = (a.day : Int) - 1 := by omega
      unfold Kh342.say
      rw [e2]
    exact reads (l := []) B k s1 e hp
  have h5 : ¬ ((Kh342.least a.day x : Nat) : Int) - (x.stock : Int) ≤ 0 := fun z => h5 (decide_eq_true z)
  have hlt : x.stock < Kh342.least a.day x := by omega
  obtain ⟨t, ht⟩ : ∃ t, Kh342.firstShort a.day x = some t := by
    cases e : Kh342.firstShort a.day x with
    | none => exact absurd (CupMath.firstShort_none.mp e) (by omega)
    | some t => exact ⟨t, rfl⟩
  refine ⟨_, rfl, r.a, dt, _, rfl, s1 _ _ ho, rfl, _, rfl, D.d, A.C_Day, dx, _, _, rfl, s1 _ _ ob, T.cl_Day, T.n_Day_minutes, df_minutes, r, x, a.day, rfl, BT.same s1, ⟨hd2, hlt⟩, fun H2 s2 => ?_⟩
  refine ⟨(by show 1 ≤ sizeLine; decide), fun p hp => ?_⟩
  have e : doing (some a) (.latest j n) = (some a, ⟨(((Kh342.firstShort a.day x).getD 0 : Nat) : Int), []⟩) := by
    rw [CupMath.do_latest hx ok1 (CupMath.latest_at ht (by omega)), ht]
    rfl
  exact reads (l := []) B k (s1.trans s2) e hp
def mkFewest : Nat → List Nat → Kh342.Call → Prop := fun j args c => ∃ n, args = [n] ∧ c = .fewest j n
theorem sc_fewest : FnScope ["day", "table", "numbers", "holds", "filled"] ["day", "table", "numbers"] (defScope s_fewest) := ⟨rfl, rfl, rfl, by decide +kernel, rfl, by decide +kernel, by decide +kernel⟩
theorem ok_fewest (T : Txt K mg A) : FnOk P w K mg base CX0 3 A.f_fewest A.d_fewest ["day", "table", "numbers"] (spTab A mkFewest) := by
  refine T.F_fewest.ok sc_fewest spTab_len fun cdv A' outer s0 H vs Q E hr h => ?_
  obtain ⟨D, a, j, r, x, ln, args, c, rfl, B, hrs, hx, hln, ⟨n, rfl, rfl⟩, k⟩ := h
  obtain ⟨dx, ob⟩ := B.ob
  have BT := B.tbl hrs hx
  obtain ⟨⟨dt, ho⟩, _, _, g⟩ := id BT
  obtain ⟨hd1, hd2⟩ := B.ok.day a rfl
  refine ⟨_, (pss_cons (ps_set (i := 3) sc_fewest.nd rfl (Or.inl rfl) (pe_ix ix_list (pv 2) pe_int (fun _ _ => rfl)))
      (pss_cons (ps_if (PW.pt (pw_or (pt_cmpR op_gt (pv 3) (pe_gint rfl T.c_MOST_CUPS) (nomark _)) (pw_or1 (pt_cmpR op_lt (pv 3) (pe_fld (pv 1) rfl) (nomark _))))) (pss_one (ps_ret (pe_lst (pa_cons (pe_gint rfl T.c_NOT_AS_TOLD) pa_nil)))) pss_nil)
      (pss_cons (ps_if (pt_cmpR op_lt (pv 3) (pe_meth (pv 1) T.cl_Table T.m_Table_most_wanted (ok_Table_most_wanted T) (hr.mono (by decide)) T.b_Table_most_wanted .nil pass0 (pa_cons (pe_fld (pv 0) rfl) pa_nil)) (nomark _)) (pss_one (ps_ret (pe_lst (pa_cons (pe_gint rfl T.c_CANNOT_BE) pa_nil)))) pss_nil)
      (pss_cons (ps_set (i := 4) sc_fewest.nd rfl (Or.inl rfl) (pe_meth (pv 1) T.cl_Table T.m_Table_filled_up (ok_Table_filled_up T) (hr.mono (by decide)) T.b_Table_filled_up .nil pass0 (pa_cons (pv 3) (pa_cons (pe_fld (pv 0) rfl) pa_nil))))
      (pss_one (ps_ret (pe_op op_cat (pe_lst (pa_cons (pe_callB call_len_seq rfl T.z_len boot_len (pa_cons (pv 4) pa_nil)) pa_nil)) (pv 4)))))))), ?_⟩
  refine ⟨_, rfl, ln, _, _, _, rfl, rfl, SqL.of hln, at_of (j := 0) rfl rfl, ?_⟩
  have no : (Kh342.MOST < n ∨ n < x.stock) → _ := fun hm => refuse (z := -22) B k (by rw [CupMath.do_fewest hx, if_pos hm])
  refine ⟨_, rfl, _, _, rfl, rfl, _, rfl, ?_⟩
  refine ite2 (fun h1 => no (.inl (by have h1 : (100000 : Int) < n := of_decide_eq_true h1; unfold Kh342.MOST; omega))) (fun h1 => ?_)
  have h1 : ¬ (100000 : Int) < (n : Int) := fun z => h1 (decide_eq_true z)
  refine ⟨_, rfl, _, rfl, r.a, A.C_Table, dt, _, _, rfl, ho, T.cl_Table, T.n_Table_stock, tf_stock, _, _, rfl, rfl, _, rfl, ?_⟩
  refine ite2 (fun h2 => no (.inr (by have h2 : (n : Int) < (x.stock : Int) := of_decide_eq_true h2; omega))) (fun h2 => ?_)
  have h2 : ¬ (n : Int) < (x.stock : Int) := fun z => h2 (decide_eq_true z)
  have ok1 : ¬ (Kh342.MOST < n ∨ n < x.stock) := by unfold Kh342.MOST; omega
  refine ⟨_, rfl, _, rfl, r.a, dt, _, rfl, ho, rfl, _, rfl, D.d, A.C_Day, dx, _, _, rfl, ob, T.cl_Day, T.n_Day_minutes, df_minutes, r, x, a.day, rfl, BT, ⟨hd1, hd2⟩, fun H1 s1 => ?_⟩
  refine ⟨_, _, rfl, rfl, _, rfl, ?_⟩
  refine ite2 (fun h3 => ?_) (fun h3 => ?_)
  · have h3 : (n : Int) < ((CupMath.mostN a.day x : Nat) : Int) := of_decide_eq_true h3
    refine ⟨(by show 1 ≤ sizeLine; decide), fun p hp => ?_⟩
    have e : Kh342.canFill a.day x n = false := by
      cases q : Kh342.canFill a.day x n with
      | false => rfl
      | true => have := CupMath.canFill_most.mp q; omega
    exact reads (l := []) B k s1 (by rw [CupMath.do_fewest hx, if_neg ok1, if_pos e]; rfl) hp
  have h3 : ¬ (n : Int) < ((CupMath.mostN a.day x : Nat) : Int) := fun z => h3 (decide_eq_true z)
  have hc : Kh342.canFill a.day x n = true := CupMath.canFill_most.mpr (by omega)
  refine ⟨_, rfl, r.a, dt, _, rfl, s1 _ _ ho, rfl, _, rfl, _, rfl, D.d, A.C_Day, dx, _, _, rfl, s1 _ _ ob, T.cl_Day, T.n_Day_minutes, df_minutes, r, x, n, a.day, rfl, BT.same s1, hd2, hc, fun H2 p s2 hp hl hlen => ?_⟩
  refine ⟨_, rfl, p, _, rfl, .inl (SqL.of hl), (by show 1 ≤ sizeLine; decide), fun q hq => ?_⟩
  refine ⟨_, rfl, q, p, _, _, rfl, rfl, upd_same, (by rw [upd_ne (ne_of_none hl hq)]; exact hl), (by rw [nums_len]; exact Nat.le_trans (show 1 + _ ≤ 1000 by omega) (by decide)), fun u hu => ?_⟩
  have e : doing (some a) (.fewest j n) = (some a, ⟨((((nums (Kh342.fills x n a.day 0 x.stock)).map V.int).length : Nat) : Int), nums (Kh342.fills x n a.day 0 x.stock)⟩) := by
    rw [CupMath.do_fewest hx, if_neg ok1, if_neg (by rw [hc]; decide), nums_len]
  exact readsCat B k (same_newT (s1.trans s2) hq _) e hu
/-! ### steps, level -/
theorem level_no {a : Abs} (h : isLevel a = false) : (a.tables.map Table.stock).sum ≠ Kh342.apart a := of_decide_eq_false h
theorem level_yes {a : Abs} (h : isLevel a = true) : ¬ (a.tables.map Table.stock).sum ≠ Kh342.apart a := fun z => z (of_decide_eq_true h)
def mkSteps : Option Abs → List Nat → Kh342.Call → Prop := fun s args c => ∃ a, s = some a ∧ args = [] ∧ c = .steps
theorem sc_steps : FnScope ["day", "numbers", "gaps"] ["day", "numbers"] (defScope s_steps) := ⟨rfl, rfl, rfl, by decide +kernel, rfl, by decide +kernel, by decide +kernel⟩
theorem ok_steps (T : Txt K mg A) : FnOk P w K mg base CX0 6 A.f_steps A.d_steps ["day", "numbers"] (spDay A mkSteps) := by
  refine T.F_steps.ok sc_steps spDay_len fun cdv A' outer s0 H vs Q E hr h => ?_
  obtain ⟨D, s, ln, args, c, rfl, B, hln, ⟨a, rfl, rfl, rfl⟩, k⟩ := h
  obtain ⟨dx, ob⟩ := B.ob
  have few : a.tables.length ≤ 5 := B.ok.few
  have hgl := CupMath.gaps_len a
  refine ⟨_, (pss_cons (ps_if (pt_not (pt_val (pe_meth0 (pv 0) T.cl_Day T.m_Day_can_be_level (ok_Day_can_be_level T) (hr.mono (by decide)) T.b_Day_can_be_level .nil pass0))) (pss_one (ps_ret (pe_lst (pa_cons (pe_gint rfl T.c_CANNOT_BE) pa_nil)))) pss_nil)
      (pss_cons (ps_set (i := 2) sc_steps.nd rfl (Or.inl rfl) (pe_meth0 (pv 0) T.cl_Day T.m_Day_over_gaps (ok_Day_over_gaps T) (hr.mono (by decide)) T.b_Day_over_gaps .nil pass0))
      (pss_one (ps_ret (pe_op op_cat (pe_lst (pa_cons (pe_call (ok_steps_over T) (hr.mono (by decide)) rfl T.g_steps_over T.F_steps_over.kp T.b_steps_over .nil pass0 (pa_cons (pv 2) pa_nil)) pa_nil)) (pv 2)))))), ?_⟩
  refine ⟨_, rfl, D.d, dx, _, rfl, ob, rfl, D, a, rfl, B, fun H1 s1 => ?_⟩
  refine ⟨_, rfl, ?_⟩
  cases hv : isLevel a with
  | false =>
    refine ⟨(by show 1 ≤ sizeLine; decide), fun p hp => ?_⟩
    exact reads (l := []) B k s1 (by rw [CupMath.do_steps, if_pos (level_no hv)]; rfl) hp
  | true =>
    refine ⟨_, rfl, D.d, dx, _, rfl, s1 _ _ ob, rfl, D, a, rfl, B.same s1, fun H2 p s2 hp hl => ?_⟩
    refine ⟨_, rfl, p, _, rfl, hl, (by omega), fun H3 s3 => ?_⟩
    refine ⟨(by show 1 ≤ sizeLine; decide), fun q hq => ?_⟩
    have hl3 := s3 _ _ hl
    refine ⟨_, rfl, q, p, _, _, rfl, rfl, upd_same, (by rw [upd_ne (ne_of_none hl3 hq)]; exact hl3), (by rw [List.length_map, hgl]; exact small400' (by show 1 + _ ≤ 400; omega)), fun u hu => ?_⟩
    exact readsCat B k (same_newT ((s1.trans s2).trans s3) hq _) (by rw [CupMath.do_steps, if_neg (level_yes hv)]; rfl) hu
def mkLevel : Option Abs → List Nat → Kh342.Call → Prop := fun s args c => ∃ a, s = some a ∧ args = [] ∧ c = .level
theorem sc_level : FnScope ["day", "numbers", "taken"] ["day", "numbers"] (defScope s_level) := ⟨rfl, rfl, rfl, by decide +kernel, rfl, by decide +kernel, by decide +kernel⟩
theorem ok_level (T : Txt K mg A) : FnOk P w K mg base CX0 6 A.f_level A.d_level ["day", "numbers"] (spDay A mkLevel) := by
  refine T.F_level.ok sc_level spDay_len fun cdv A' outer s0 H vs Q E hr h => ?_
  obtain ⟨D, s, ln, args, c, rfl, B, hln, ⟨a, rfl, rfl, rfl⟩, k⟩ := h
  obtain ⟨dx, ob⟩ := B.ob
  have few : a.tables.length ≤ 5 := B.ok.few
  have hgl := CupMath.gaps_len a
  refine ⟨_, (pss_cons (ps_if (pt_not (pt_val (pe_meth0 (pv 0) T.cl_Day T.m_Day_can_be_level (ok_Day_can_be_level T) (hr.mono (by decide)) T.b_Day_can_be_level .nil pass0))) (pss_one (ps_ret (pe_lst (pa_cons (pe_gint rfl T.c_CANNOT_BE) pa_nil)))) pss_nil)
      (pss_cons (ps_set (i := 2) sc_level.nd rfl (Or.inl rfl) (pe_call (ok_steps_over T) (hr.mono (by decide)) rfl T.g_steps_over T.F_steps_over.kp T.b_steps_over .nil pass0 (pa_cons (pe_meth0 (pv 0) T.cl_Day T.m_Day_over_gaps (ok_Day_over_gaps T) (hr.mono (by decide)) T.b_Day_over_gaps .nil pass0) pa_nil)))
      (pss_cons (ps_expr (pe_meth0 (pv 0) T.cl_Day T.m_Day_make_level (ok_Day_make_level T) (hr.mono (by decide)) T.b_Day_make_level .nil pass0))
      (pss_one (ps_ret (pe_lst (pa_cons (pv 2) pa_nil))))))), ?_⟩
  refine ⟨_, rfl, D.d, dx, _, rfl, ob, rfl, D, a, rfl, B, fun H1 s1 => ?_⟩
  refine ⟨_, rfl, ?_⟩
  cases hv : isLevel a with
  | false =>
    refine ⟨(by show 1 ≤ sizeLine; decide), fun p hp => ?_⟩
    exact reads (l := []) B k s1 (by rw [CupMath.do_level, if_pos (level_no hv)]; rfl) hp
  | true =>
    refine ⟨_, rfl, D.d, dx, _, rfl, s1 _ _ ob, rfl, D, a, rfl, B.same s1, fun H2 p s2 hp hl => ?_⟩
    refine ⟨p, _, rfl, hl, (by omega), fun H3 s3 => ?_⟩
    have s03 : Same H H3 := (s1.trans s2).trans s3
    refine ⟨_, rfl, D.d, dx, _, rfl, s03 _ _ ob, rfl, D, a, rfl, B.same s03, fun H4 B4 k4 => ?_⟩
    refine ⟨_, rfl, (by show 1 ≤ sizeLine; decide), fun q hq => ?_⟩
    rw [CupMath.do_level, if_neg (level_yes hv)] at k
    have fq : H q = none := by
      cases e : H q with
      | none => rfl
      | some o =>
        by_cases hf : q ∈ D.foot
        · obtain ⟨o', ho', _⟩ := foot_all B4 q hf
          rw [hq] at ho'
          cases ho'
        · rw [k4 q o (s03 _ _ e) hf] at hq
          cases hq
    exact k _ D q (B4.same (same_new hq _)) rfl fq upd_same (fun b o e hb => same_new hq _ _ _ (k4 b o (s03 _ _ e) hb)) fun b hb => .inl hb
/-! ### look, sums -/
def mkLook : Nat → List Nat → Kh342.Call → Prop := fun j args c => args = [] ∧ c = .look j
theorem sc_look : FnScope ["day", "table", "numbers", "seen", "minute", "cups"] ["day", "table", "numbers"] (defScope s_look) := ⟨rfl, rfl, rfl, by decide +kernel, rfl, by decide +kernel, by decide +kernel⟩
theorem ok_look (T : Txt K mg A) : FnOk P w K mg base CX0 1 A.f_look A.d_look ["day", "table", "numbers"] (spTab A mkLook) := by
  refine T.F_look.ok sc_look spTab_len fun cdv A' outer s0 H vs Q E hr h => ?_
  obtain ⟨D, a, j, r, x, ln, args, c, rfl, B, hrs, hx, hln, ⟨rfl, rfl⟩, k⟩ := h
  have BT := B.tbl hrs hx
  obtain ⟨⟨dt, ho⟩, ⟨ap, hp, pp⟩, ⟨ad, hd, pd⟩, g⟩ := id BT
  have lenp := Paired.len pp
  have hb6 := g.brought
  refine ⟨_, (pss_cons (ps_set (i := 3) sc_look.nd rfl (Or.inl rfl) (pe_lst (pa_cons (pe_fld (pv 1) rfl) (pa_cons (pe_fld (pv 1) rfl) (pa_cons (pe_callB call_len_seq rfl T.z_len boot_len (pa_cons (pe_fld (pv 1) rfl) pa_nil)) pa_nil)))))
      (pss_cons (ps_for PassesOwn.never rfl (pi_list (pe_fld (pv 1) rfl)) (pg_tup rfl (pgs_cons (pg_name (i := 4) sc_look.nd rfl (Or.inl rfl)) (pgs_cons (pg_name (i := 5) sc_look.nd rfl (Or.inl rfl)) pgs_nil)))
        (pss_cons (ps_expr (pe_bm PySem.F.plainAttrs_list PySem.F.slot_list_append PySem.F.type_list_append mt_append (pv 3) (pa_cons (pv 4) pa_nil)))
        (pss_one (ps_expr (pe_bm PySem.F.plainAttrs_list PySem.F.slot_list_append PySem.F.type_list_append mt_append (pv 3) (pa_cons (pv 5) pa_nil))))))
      (pss_one (ps_ret (pv 3))))), ?_⟩
  refine ⟨_, rfl, r.a, A.C_Table, dt, _, _, rfl, ho, T.cl_Table, T.n_Table_stock, tf_stock, _, rfl, r.a, A.C_Table, dt, _, _, rfl, ho, T.cl_Table, T.n_Table_takes, tf_takes, _, rfl, r.a, A.C_Table, dt, _, _, rfl, ho, T.cl_Table, T.n_Table_passes, tf_passes, r.lp, _, rfl, .inl (SqL.of hp), (by show 3 ≤ sizeLine; decide), fun L hL => ?_⟩
  have s0 : Same H (upd H L (.lst [V.int x.stock, V.int x.takes, V.int (ap.map V.ref).length])) := same_new hL _
  refine ⟨_, rfl, r.a, A.C_Table, dt, _, _, rfl, s0 _ _ ho, T.cl_Table, T.n_Table_deliveries, tf_deliveries, r.ld, rfl, ⟨_, SqL.of (s0 _ _ hd)⟩, for_list (K := K) (a := r.ld) (xs := ad.map V.ref)
    (fun i σ H' => ∃ v4 v5 : Option V, σ = [some (.ref D.d), some (.ref r.a), some (.ref ln), some (.ref L), v4, v5] ∧ Same H H' ∧ H' L = some (.lst ((nums (CupMath.seenTo x i)).map V.int)))
    ⟨none, none, rfl, s0, ?_⟩ (fun i σ H' _ ⟨_, _, _, s5, _⟩ => SqL.of (s5 _ _ hd)) ?_ ?_⟩
  · rw [upd_same, List.length_map, lenp]
    rfl
  · rintro i y σ H' hi ⟨v4, v5, rfl, s5, hl⟩
    obtain ⟨b, hb, rfl⟩ := map_at hi
    obtain ⟨p, hpi, hpb⟩ := Paired.get pd hb
    have hsl := CupMath.seenTo_len x i
    refine ⟨b, _, rfl, SqT.of (s5 _ _ hpb), rfl, _, _, rfl, _, _, rfl, rfl, ?_⟩
    refine ⟨_, rfl, .inl ⟨rfl, _, SqL.of hl⟩, _, rfl, L, _, _, rfl, rfl, hl, (by rw [nums_len]; exact small400 (by omega)), ?_⟩
    refine ⟨_, rfl, .inl ⟨rfl, _, SqL.of upd_same⟩, _, rfl, L, _, _, rfl, rfl, upd_same, (by rw [List.length_append, nums_len]; exact small400 (by show _ + 1 ≤ 400; omega)), ?_⟩
    refine ⟨some (.int p.1), some (.int p.2), rfl, same_put (same_put s5 hL _) hL _, ?_⟩
    rw [upd_same, CupMath.seenTo_succ hpi, nums_snoc, nums_snoc]
  · rintro σ H' ⟨v4, v5, rfl, s5, hl⟩
    refine ⟨_, rfl, ?_⟩
    have e : doing (some a) (.look j) = (some a, ⟨(x.stock : Int), nums (x.takes :: x.passes.length :: x.brought.flatMap fun b => [b.1, b.2])⟩) := CupMath.do_look hx
    rw [e] at k
    refine k H' D L (B.same s5) rfl hL ?_ (fun b o e _ => s5 b o e) fun b hb => .inl hb
    rw [hl, List.length_map, Paired.len pd]
    unfold CupMath.seenTo
    rw [List.take_length]
    rfl
def mkSums : Option Abs → List Nat → Kh342.Call → Prop := fun s args c => ∃ a, s = some a ∧ args = [] ∧ c = .sums
theorem allCome_last {a : Abs} (h1 : 1 ≤ a.day) (h : ∀ x ∈ a.tables, ∀ b ∈ x.brought, b.1 < a.day) : allCome a (a.day - 1) = (a.tables.map fun x => (x.brought.map fun b => b.2).sum).sum := by
  unfold allCome
  congr 1
  apply List.map_congr_left
  intro x hx
  exact CupMath.comes_all h1 (h x hx)
theorem sc_sums : FnScope ["day", "numbers", "last"] ["day", "numbers"] (defScope s_sums) := ⟨rfl, rfl, rfl, by decide +kernel, rfl, by decide +kernel, by decide +kernel⟩
theorem ok_sums (T : Txt K mg A) : FnOk P w K mg base CX0 3 A.f_sums A.d_sums ["day", "numbers"] (spDay A mkSums) := by
  refine T.F_sums.ok sc_sums spDay_len fun cdv A' outer s0 H vs Q E hr h => ?_
  obtain ⟨D, s, ln, args, c, rfl, B, hln, ⟨a, rfl, rfl, rfl⟩, k⟩ := h
  obtain ⟨dx, ob⟩ := B.ob
  have ls := B.ls
  obtain ⟨hd1, hd2⟩ := B.ok.day a rfl
  refine ⟨_, (pss_cons (ps_set (i := 2) sc_sums.nd rfl (Or.inl rfl) (pe_op op_sub (pe_fld (pv 0) rfl) pe_int))
      (pss_one (ps_ret (pe_lst (pa_cons (pe_fld (pv 0) rfl) (pa_cons (pe_callB call_len_seq rfl T.z_len boot_len (pa_cons (pe_fld (pv 0) rfl) pa_nil)) (pa_cons (pe_meth0 (pv 0) T.cl_Day T.m_Day_all_stock (ok_Day_all_stock T) (hr.mono (by decide)) T.b_Day_all_stock .nil pass0) (pa_cons (pe_meth (pv 0) T.cl_Day T.m_Day_all_brought_up_to (ok_Day_all_brought_up_to T) (hr.mono (by decide)) T.b_Day_all_brought_up_to .nil pass0 (pa_cons (pv 2) pa_nil)) (pa_cons (pe_meth (pv 0) T.cl_Day T.m_Day_all_wanted_up_to (ok_Day_all_wanted_up_to T) (hr.mono (by decide)) T.b_Day_all_wanted_up_to .nil pass0 (pa_cons (pv 2) pa_nil)) pa_nil))))))))), ?_⟩
  refine ⟨_, rfl, D.d, A.C_Day, dx, _, _, rfl, ob, T.cl_Day, T.n_Day_minutes, df_minutes, _, _, rfl, rfl, ?_⟩
  refine ⟨_, rfl, D.d, A.C_Day, dx, _, _, rfl, ob, T.cl_Day, T.n_Day_minutes, df_minutes, _, rfl, D.d, A.C_Day, dx, _, _, rfl, ob, T.cl_Day, T.n_Day_tables, df_tables, D.lt, _, rfl, .inl (SqL.of ls), ?_⟩
  have el : (a.day : Int) - 1 = ((a.day - 1 : Nat) : Int) := by omega
  refine ⟨_, rfl, D.d, dx, _, rfl, ob, rfl, D, a, rfl, B, fun H1 s1 => ?_⟩
  refine ⟨_, rfl, D.d, dx, _, rfl, s1 _ _ ob, rfl, _, rfl, D, a, a.day - 1, (by show [V.ref D.d, V.int ((a.day : Int) - 1)] = _; rw [el]), B.same s1, fun H2 s2 => ?_⟩
  have s12 := s1.trans s2
  refine ⟨_, rfl, D.d, dx, _, rfl, s12 _ _ ob, rfl, _, rfl, D, a, a.day - 1, (by show [V.ref D.d, V.int ((a.day : Int) - 1)] = _; rw [el]), B.same s12, fun H3 s3 => ?_⟩
  refine ⟨(by show 5 ≤ sizeLine; decide), fun p hp => ?_⟩
  have e : doing (some a) .sums = (some a, ⟨(a.day : Int), [((D.rs.map fun r => V.ref r.a).length : Int), (allStock a : Int), (allCome a (a.day - 1) : Int), (allWant a (a.day - 1) : Int)]⟩) := by
    rw [rs_len B, allCome_last hd1 B.ok.late]
    rfl
  exact reads B k (s12.trans s3) e hp
end
end Cup
end

section
set_option Elab.async false
set_option linter.all false
set_option maxRecDepth 100000
set_option maxHeartbeats 4000000
/-! Which def answers which call. -/
namespace Cup
open PySem PySem.Spec PyProof.Rows L2
open Kh342 (Pass Table Abs upTo doing)
open CupFlat (encC asInts widths)
open CupMath (onTable)
theorem sIx_some {n : Nat} {d i : Nat} (h : i ≤ n) : HT.sIx n d (some (i : Int)) = i := by
  rw [HT.sIx_nat]
  omega
theorem cut_lo {xs : List V} {i : Nat} (h : i ≤ xs.length) : cutV xs (some (i : Int)) none = xs.drop i := by
  unfold cutV
  rw [sIx_some h]
  exact List.take_of_length_le (by rw [List.length_drop]; exact Nat.le_refl _)
theorem cut_both {xs : List V} {i j : Nat} (h : i ≤ j) (hj : j ≤ xs.length) : cutV xs (some (i : Int)) (some (j : Int)) = (xs.drop i).take (j - i) := by
  unfold cutV
  rw [sIx_some (d := 0) (i := i) (by omega), sIx_some hj]
theorem Ret.mono {A : Ad} {H H1 : Hp} {D : DR} {s' : Option Abs} {ans : List Int} {Q : VK} (k : Ret A H D s' ans Q) (q : Same H H1) : Ret A H1 D s' ans Q := fun H' D' p h1 h2 h3 h4 h5 h6 =>
  k H' D' p h1 h2 (q.free h3) h4 (fun b o e hb => h5 b o (q b o e) hb) fun b hb => (h6 b hb).imp id q.free
theorem enc_table {c : Kh342.Call} {k : Nat} (h : onTable c = some k) : ∃ rest, (encC c).2 = k :: rest := by
  cases c <;> first | (cases h; exact ⟨_, rfl⟩) | (cases h)
/-- answer: any call of the document, by its number and its numbers -/
def spAnswer (A : Ad) : Sp := fun vs H Q _ => ∃ (D : DR) (s : Option Abs) (ln : Addr) (c : Kh342.Call), vs = [.ref D.d, .int (encC c).1, .ref ln] ∧ DayAt A H D s ∧ H ln = some (.lst (nv (encC c).2)) ∧ Ret A H D (doing s c).1 (ansOf (doing s c)) Q
/-- answer_at_table: any call on a table -/
def spAT (A : Ad) : Sp := fun vs H Q _ => ∃ (D : DR) (a : Abs) (ln : Addr) (c : Kh342.Call) (k : Nat), vs = [.ref D.d, .int (encC c).1, .ref ln] ∧ DayAt A H D (some a) ∧ H ln = some (.lst (nv (encC c).2)) ∧ onTable c = some k ∧ Ret A H D (doing (some a) c).1 (ansOf (doing (some a) c)) Q
section
variable {P : Program} {w : World} {K : PySem.W.Frag} {mg : Str → Option Value} {base : Heap} {A : Ad}
theorem disp (T : Txt K mg A) {c : Kh342.Call} {k : Nat} {A' : Around} (h : onTable c = some k) (hr : Room 4 A') :
    ∃ (kk : Nat) (f : Addr) (fd : FuncData) (ps : List Str) (mk : Nat → List Nat → Kh342.Call → Prop), findF [(2, A.f_add_pass), (3, A.f_bring), (4, A.f_take), (5, A.f_set_stock), (6, A.f_wants), (7, A.f_there), (8, A.f_least), (9, A.f_short), (13, A.f_latest), (14, A.f_fewest), (17, A.f_look)] ((encC c).1 : Int) = some f ∧
      FnOk P w K mg base CX0 kk f fd ps (spTab A mk) ∧ Room kk A' ∧ PySem.W.keepIn K (.ref f) = true ∧ Binds K fd ps [] ∧ mk k (encC c).2.tail c := by
  cases c with
  | pass k' f l n => cases h; exact ⟨_, _, _, _, mkPass, rfl, ok_add_pass T, hr.mono (by decide), T.F_add_pass.kp, T.b_add_pass, f, l, n, rfl, rfl⟩
  | bring k' t n => cases h; exact ⟨_, _, _, _, mkBring, rfl, ok_bring T, hr.mono (by decide), T.F_bring.kp, T.b_bring, t, n, rfl, rfl⟩
  | take k'  => cases h; exact ⟨_, _, _, _, mkTake, rfl, ok_take T, hr.mono (by decide), T.F_take.kp, T.b_take, rfl, rfl⟩
  | stock k' n => cases h; exact ⟨_, _, _, _, mkStock, rfl, ok_set_stock T, hr.mono (by decide), T.F_set_stock.kp, T.b_set_stock, n, rfl, rfl⟩
  | wants k' t => cases h; exact ⟨_, _, _, _, mkWants, rfl, ok_wants T, hr.mono (by decide), T.F_wants.kp, T.b_wants, t, rfl, rfl⟩
  | there k' t => cases h; exact ⟨_, _, _, _, mkThere, rfl, ok_there T, hr.mono (by decide), T.F_there.kp, T.b_there, t, rfl, rfl⟩
  | least k'  => cases h; exact ⟨_, _, _, _, mkLeast, rfl, ok_least T, hr.mono (by decide), T.F_least.kp, T.b_least, rfl, rfl⟩
  | short k'  => cases h; exact ⟨_, _, _, _, mkShort, rfl, ok_short T, hr.mono (by decide), T.F_short.kp, T.b_short, rfl, rfl⟩
  | latest k' n => cases h; exact ⟨_, _, _, _, mkLatest, rfl, ok_latest T, hr.mono (by decide), T.F_latest.kp, T.b_latest, n, rfl, rfl⟩
  | fewest k' n => cases h; exact ⟨_, _, _, _, mkFewest, rfl, ok_fewest T, hr.mono (by decide), T.F_fewest.kp, T.b_fewest, n, rfl, rfl⟩
  | look k'  => cases h; exact ⟨_, _, _, _, mkLook, rfl, ok_look T, hr.mono (by decide), T.F_look.kp, T.b_look, rfl, rfl⟩
  | begin_ d => cases h
  | table x n => cases h
  | enough => cases h
  | apart => cases h
  | together => cases h
  | steps => cases h
  | level => cases h
  | sums => cases h
theorem dispDay (T : Txt K mg A) {c : Kh342.Call} {a : Abs} {A' : Around} (h0 : ∀ d, c ≠ .begin_ d) (h : onTable c = none) (hr : Room 6 A') :
    ∃ (kk : Nat) (f : Addr) (fd : FuncData) (ps : List Str) (mk : Option Abs → List Nat → Kh342.Call → Prop), findF [(1, A.f_add_table), (10, A.f_enough), (11, A.f_apart), (12, A.f_together), (15, A.f_steps), (16, A.f_level), (18, A.f_sums)] ((encC c).1 : Int) = some f ∧
      FnOk P w K mg base CX0 kk f fd ps (spDay A mk) ∧ Room kk A' ∧ PySem.W.keepIn K (.ref f) = true ∧ Binds K fd ps [] ∧ mk (some a) (encC c).2 c := by
  cases c with
  | begin_ d => exact absurd rfl (h0 d)
  | table x n => exact ⟨_, _, _, _, mkTable, rfl, ok_add_table T, hr.mono (by decide), T.F_add_table.kp, T.b_add_table, a, x, n, rfl, rfl, rfl⟩
  | enough => exact ⟨_, _, _, _, mkEnough, rfl, ok_enough T, hr.mono (by decide), T.F_enough.kp, T.b_enough, a, rfl, rfl, rfl⟩
  | apart => exact ⟨_, _, _, _, mkApart, rfl, ok_apart T, hr.mono (by decide), T.F_apart.kp, T.b_apart, a, rfl, rfl, rfl⟩
  | together => exact ⟨_, _, _, _, mkTogether, rfl, ok_together T, hr.mono (by decide), T.F_together.kp, T.b_together, a, rfl, rfl, rfl⟩
  | steps => exact ⟨_, _, _, _, mkSteps, rfl, ok_steps T, hr.mono (by decide), T.F_steps.kp, T.b_steps, a, rfl, rfl, rfl⟩
  | level => exact ⟨_, _, _, _, mkLevel, rfl, ok_level T, hr.mono (by decide), T.F_level.kp, T.b_level, a, rfl, rfl, rfl⟩
  | sums => exact ⟨_, _, _, _, mkSums, rfl, ok_sums T, hr.mono (by decide), T.F_sums.kp, T.b_sums, a, rfl, rfl, rfl⟩
  | pass k f l n => cases h
  | bring k t n => cases h
  | take k => cases h
  | stock k n => cases h
  | wants k t => cases h
  | there k t => cases h
  | least k => cases h
  | short k => cases h
  | latest k n => cases h
  | fewest k n => cases h
  | look k => cases h
theorem sc_answer_at_table : FnScope ["day", "number", "numbers", "k"] ["day", "number", "numbers"] (defScope s_answer_at_table) := ⟨rfl, rfl, rfl, by decide +kernel, rfl, by decide +kernel, by decide +kernel⟩
theorem ok_answer_at_table (T : Txt K mg A) : FnOk P w K mg base CX0 5 A.f_answer_at_table A.d_answer_at_table ["day", "number", "numbers"] (spAT A) := by
  refine T.F_answer_at_table.ok sc_answer_at_table (fun vs H Q E h => ?_) fun cdv A' outer s0 H vs Q E hr h => ?_
  · obtain ⟨D, a, ln, c, k, rfl, _⟩ := h
    rfl
  obtain ⟨D, a, ln, c, j, rfl, B, hln, hc, k⟩ := h
  obtain ⟨dx, ob⟩ := B.ob
  have ls := B.ls
  have len : D.rs.length = a.tables.length := Paired.len B.tb
  obtain ⟨rest, hrest⟩ := enc_table hc
  rw [hrest] at hln
  refine ⟨_, (pss_cons (ps_set (i := 3) sc_answer_at_table.nd rfl (Or.inl rfl) (pe_ix ix_list (pv 2) pe_int (fun _ _ => rfl)))
      (pss_cons (ps_if (pt_cmpR op_ge (pv 3) (pe_callB call_len_seq rfl T.z_len boot_len (pa_cons (pe_fld (pv 0) rfl) pa_nil)) (nomark _)) (pss_one (ps_ret (pe_lst (pa_cons (pe_gint rfl T.c_NO_TABLE) pa_nil)))) pss_nil)
      (pss_one (ps_ret (pe_vcall (pe_ix ix_mdict (pe_gref rfl T.q_TABLE_CALLS) (pv 1) (fun _ _ => rfl)) (pa_cons (pv 0) (pa_cons (pe_ix ix_list (pe_fld (pv 0) rfl) (pv 3) (fun _ _ => rfl)) (pa_cons (pe_slice sl_list (pv 2) (po_some pe_int) po_none) pa_nil)))))))), ?_⟩
  refine ⟨_, rfl, ln, _, _, _, rfl, rfl, SqL.of hln, at_of (j := 0) rfl rfl, ?_⟩
  refine ⟨_, rfl, _, rfl, D.d, A.C_Day, dx, _, _, rfl, ob, T.cl_Day, T.n_Day_tables, df_tables, D.lt, _, rfl, .inl (SqL.of ls), _, _, rfl, rfl, _, rfl, ?_⟩
  refine ite2 (fun h1 => refuse (z := -2) B k ?_) (fun h1 => ?_)
  · have h1 : ((D.rs.map fun r => V.ref r.a).length : Int) ≤ j := of_decide_eq_true h1
    rw [List.length_map, len] at h1
    exact CupMath.do_noTable hc (List.getElem?_eq_none (by omega))
  have h1 : j < a.tables.length := by
    apply Classical.byContradiction
    intro z
    refine h1 (decide_eq_true ?_)
    rw [List.length_map, len]
    omega
  have hx : a.tables[j]? = some a.tables[j] := List.getElem?_eq_getElem h1
  have hrs : D.rs[j]? = some (D.rs[j]'(by omega)) := List.getElem?_eq_getElem (by omega)
  obtain ⟨kk, f, fd, ps, mk, e1, G, hrm, hkp, hb, hmk⟩ := disp (P := P) (w := w) (base := base) T hc hr
  refine ⟨_, rfl, A.q_TABLE_CALLS, _, _, f, rfl, rfl, T.s_TABLE_CALLS, e1, kk, f, fd, ps, _, rfl, G, hrm, hkp, hb, ?_⟩
  refine ⟨_, rfl, _, rfl, D.d, A.C_Day, dx, _, _, rfl, ob, T.cl_Day, T.n_Day_tables, df_tables, _, rfl, D.lt, _, _, V.ref (D.rs[j]'(by omega)).a, rfl, rfl, SqL.of ls, at_of (j := j) rfl (by rw [List.getElem?_map, hrs]; rfl), ?_⟩
  refine ⟨_, rfl, _, rfl, ln, _, rfl, SqL.of hln, fun q hq => ?_⟩
  have ecut : cutV (nv (j :: rest)) (some 1) none = nv rest := cut_lo (i := 1) (by show 1 ≤ (nv rest).length + 1; omega)
  have s1 : Same H (upd H q (.lst (cutV (nv (j :: rest)) (some 1) none))) := same_new hq _
  refine ⟨D, a, j, _, _, q, rest, c, rfl, B.same s1, hrs, hx, (by rw [upd_same, ecut]), ?_, k.mono s1⟩
  rw [hrest] at hmk
  exact hmk
theorem is_begin {c : Kh342.Call} (h : (encC c).1 = 0) : ∃ d, c = .begin_ d := by
  cases c <;> first | exact ⟨_, rfl⟩ | (exact absurd h (by simp [encC]))
theorem sc_answer : FnScope ["day", "number", "numbers"] ["day", "number", "numbers"] (defScope s_answer) := ⟨rfl, rfl, rfl, by decide +kernel, rfl, by decide +kernel, by decide +kernel⟩
theorem ok_answer (T : Txt K mg A) : FnOk P w K mg base CX0 7 A.f_answer A.d_answer ["day", "number", "numbers"] (spAnswer A) := by
  refine T.F_answer.ok sc_answer (fun vs H Q E h => ?_) fun cdv A' outer s0 H vs Q E hr h => ?_
  · obtain ⟨D, s, ln, c, rfl, _⟩ := h
    rfl
  obtain ⟨D, s, ln, c, rfl, B, hln, k⟩ := h
  obtain ⟨dx, ob⟩ := B.ob
  refine ⟨_, (pss_cons (ps_if (pt_cmpR op_eq (pv 1) (pe_gint rfl T.c_BEGIN) (nomark _)) (pss_one (ps_ret (pe_call (ok_begin T) (hr.mono (by decide)) rfl T.g_begin T.F_begin.kp T.b_begin .nil pass0 (pa_cons (pv 0) (pa_cons (pv 2) pa_nil))))) pss_nil)
      (pss_cons (ps_if (pt_cmpR op_eq (pe_fld (pv 0) rfl) pe_int (nomark _)) (pss_one (ps_ret (pe_lst (pa_cons (pe_gint rfl T.c_NOT_BEGUN) pa_nil)))) pss_nil)
      (pss_cons (ps_if (pt_cmp (pc_min (pv 1) (pe_gref rfl T.q_DAY_CALLS))) (pss_one (ps_ret (pe_vcall (pe_ix ix_mdict (pe_gref rfl T.q_DAY_CALLS) (pv 1) (fun _ _ => rfl)) (pa_cons (pv 0) (pa_cons (pv 2) pa_nil))))) pss_nil)
      (pss_one (ps_ret (pe_call (ok_answer_at_table T) (hr.mono (by decide)) rfl T.g_answer_at_table T.F_answer_at_table.kp T.b_answer_at_table .nil pass0 (pa_cons (pv 0) (pa_cons (pv 1) (pa_cons (pv 2) pa_nil))))))))), ?_⟩
  refine ⟨_, rfl, rfl, _, rfl, ?_⟩
  refine ite2 (fun h0 => ?_) (fun h0 => ?_)
  · have h0 : ((encC c).1 : Int) = 0 := V.int.inj (of_decide_eq_true h0)
    obtain ⟨d, rfl⟩ := is_begin (c := c) (by omega)
    exact ⟨_, rfl, _, rfl, D, s, ln, _, _, rfl, B, hln, ⟨d, rfl, rfl⟩, k⟩
  have h0 : (encC c).1 ≠ 0 := fun z => h0 (decide_eq_true (by rw [z]; rfl))
  refine ⟨_, rfl, D.d, A.C_Day, dx, _, _, rfl, ob, T.cl_Day, T.n_Day_minutes, df_minutes, rfl, _, rfl, ?_⟩
  refine ite2 (fun h1 => ?_) (fun h1 => ?_)
  · have h1 : ((minutesOf s : Nat) : Int) = 0 := V.int.inj (of_decide_eq_true h1)
    cases s with
    | none => exact refuse (z := -61) B k (CupMath.do_none fun d z => h0 (by rw [z]; rfl))
    | some a =>
      have := (B.ok.day a rfl).1
      have h1 : (a.day : Int) = 0 := h1
      omega
  cases s with
  | none => exact absurd (decide_eq_true rfl) h1
  | some a =>
  refine ⟨_, rfl, A.q_DAY_CALLS, _, _, rfl, rfl, T.s_DAY_CALLS, _, rfl, ?_⟩
  cases hc : onTable c with
  | none =>
    obtain ⟨kk, f, fd, ps, mk, e2, G, hrm, hkp, hb, hmk⟩ := dispDay (P := P) (w := w) (base := base) (a := a) T (fun d z => h0 (by rw [z]; rfl)) hc hr
    rw [e2]
    refine ⟨_, rfl, A.q_DAY_CALLS, _, _, f, rfl, rfl, T.s_DAY_CALLS, e2, kk, f, fd, ps, _, rfl, G, hrm, hkp, hb, ?_⟩
    exact ⟨_, rfl, _, rfl, D, some a, ln, _, c, rfl, B, hln, hmk, k⟩
  | some j =>
    have e1 : findF [(1, A.f_add_table), (10, A.f_enough), (11, A.f_apart), (12, A.f_together), (15, A.f_steps), (16, A.f_level), (18, A.f_sums)] ((encC c).1 : Int) = none := by
      cases c <;> first | rfl | (cases hc)
    rw [e1]
    exact ⟨_, rfl, _, rfl, _, rfl, D, a, ln, c, j, rfl, B, hln, hc, k⟩
end
end Cup
end

section
set_option Elab.async false
set_option linter.all false
set_option maxRecDepth 100000
set_option maxHeartbeats 4000000
/-! The loop over the calls. -/
namespace Cup
open PySem PySem.Spec PyProof.Rows L2
open Kh342 (Pass Table Abs upTo doing)
open CupFlat (encC asInts widths)
theorem nv_asInts (l : List Nat) : nv l = (asInts l).map V.int := by
  unfold nv asInts
  rw [List.map_map]
  rfl
section
variable {P : Program} {w : World} {K : PySem.W.Frag} {mg : Str → Option Value} {base : Heap} {A : Ad}
def spAnswers (K : PySem.W.Frag) : Sp := fun vs H Q _ => ∃ (a : Addr) (ns : List Int), vs = [.ref a] ∧ SqL K H a (ns.map V.int) ∧ (∀ y ∈ ns, 0 ≤ y) ∧ PyKh342.answers_asked ns = true ∧ ∀ (H' : Hp) (p : Addr), H' p = some (.lst ((PyKh342.answers ns).map V.int)) → Q (.ref p) H'
/-- between two turns -/
structure Loop (A : Ad) (H : Hp) (ns : List Int) (g : Addr) (H' : Hp) (D : DR) (st : Option Abs) (i : Nat) (out : List Int) : Prop where
  le : i ≤ ns.length
  rest : ∃ (f : Nat) (cs : List (List (List Int))), PyFlat.calls PyKh342.shape f (ns.drop i) = some cs ∧ PyKh342.answers ns = out ++ PyFlat.told (PyFlat.played Kh342Neutral.step st (cs.map PyKh342.whole))
  day : DayAt A H' D st
  out_ : H' g = some (.lst (out.map V.int))
  same : Same H H'
  gn : g ∉ D.foot
  fresh : ∀ b ∈ D.foot, H b = none
  gf : H g = none
theorem sc_answers : FnScope ["calls", "day", "given", "at", "number", "behind", "told"] ["calls"] (defScope s_answers) := ⟨rfl, rfl, rfl, by decide +kernel, rfl, by decide +kernel, by decide +kernel⟩
/-- ok_answer: what the def answer promises once all calls are built -/
theorem ok_answers_of (ok_answer : Txt K mg A → FnOk P w K mg base CX0 7 A.f_answer A.d_answer ["day", "number", "numbers"] (spAnswer A)) (T : Txt K mg A) : FnOk P w K mg base CX0 8 A.f_answers A.d_answers ["calls"] (spAnswers K) := by
  refine T.F_answers.ok sc_answers (fun vs H Q E h => ?_) fun cdv A' outer s0 H vs Q E hr h => ?_
  · obtain ⟨a, ns, rfl, _⟩ := h
    rfl
  obtain ⟨a, ns, rfl, hS, hn, hask, k⟩ := h
  obtain ⟨cs0, hcs0, hans, hmost⟩ := CupFlat.asked_of hask
  refine ⟨_, (pss_cons (ps_set (i := 1) sc_answers.nd rfl (Or.inl rfl) (pe_make0 T.k_Day (ok_Day_init T) (hr.mono (by decide)) rfl T.g_Day T.b_Day_init .nil pass0))
      (pss_cons (ps_set (i := 2) sc_answers.nd rfl (Or.inl rfl) (pe_lst pa_nil))
      (pss_cons (ps_set (i := 3) sc_answers.nd rfl (Or.inl rfl) pe_int)
      (pss_cons (ps_while PassesOwn.never (pt_cmpR op_lt (pv 3) (pe_callB call_len_seq rfl T.z_len boot_len (pa_cons (pv 0) pa_nil)) (nomark _))
        (pss_cons (ps_set (i := 4) sc_answers.nd rfl (Or.inl rfl) (pe_ix ix_list (pv 0) (pv 3) (fun _ _ => rfl)))
        (pss_cons (ps_set (i := 5) sc_answers.nd rfl (Or.inl rfl) (pe_op op_add (pe_op op_add (pv 3) pe_int) (pe_ix ix_tup (pe_gref rfl T.q_WIDTHS) (pv 4) (fun _ _ => rfl))))
        (pss_cons (ps_set (i := 6) sc_answers.nd rfl (Or.inl rfl) (pe_call (ok_answer T) (hr.mono (by decide)) rfl T.g_answer T.F_answer.kp T.b_answer .nil pass0 (pa_cons (pv 1) (pa_cons (pv 4) (pa_cons (pe_slice sl_list (pv 0) (po_some (pe_op op_add (pv 3) pe_int)) (po_some (pv 5))) pa_nil)))))
        (pss_cons (ps_expr (pe_bm PySem.F.plainAttrs_list PySem.F.slot_list_append PySem.F.type_list_append mt_append (pv 2) (pa_cons (pe_callB call_len_seq rfl T.z_len boot_len (pa_cons (pv 6) pa_nil)) pa_nil)))
        (pss_cons (ps_expr (pe_bm PySem.F.plainAttrs_list PySem.F.slot_list_extend PySem.F.type_list_extend mt_extend (pv 2) (pa_cons (pv 6) pa_nil)))
        (pss_one (ps_set (i := 3) sc_answers.nd rfl (Or.inl rfl) (pv 5)))))))))
      (pss_one (ps_ret (pv 2))))))), ?_⟩
  -- day = Day(); given = []; at = 0
  intro d dd nd ndd ne
  refine ⟨d, dd, rfl, upd_same, fun H1 lt q1 q2 q3 kp => ⟨rfl, ?_⟩⟩
  have s1 : Same H H1 := fun b o e => kp b o (by rw [upd_ne (ne_of_none e nd), upd_ne (ne_of_none e ndd)]; exact e) (ne_of_none e nd)
  have flt : H lt = none := Same.free (fun b o e => by rw [upd_ne (ne_of_none e nd), upd_ne (ne_of_none e ndd)]; exact e) q3
  have nlt : lt ≠ d := fun z => by rw [z, upd_same] at q3; cases q3
  refine ⟨Nat.zero_le _, fun g hg => ?_⟩
  have B0 : DayAt A H1 ⟨d, lt, []⟩ none := ⟨⟨dd, q1⟩, q2, .nil, by show [d, lt].Nodup; simp [nlt.symm], ⟨fun a e => (by cases e), Nat.zero_le _, fun x hx => absurd hx (List.not_mem_nil)⟩⟩
  have L0 : Loop A H ns g (upd H1 g (.lst [])) ⟨d, lt, []⟩ none 0 [] := by
    refine ⟨Nat.zero_le _, ⟨ns.length, cs0, hcs0, hans⟩, B0.same (same_new hg _), upd_same, same_newT s1 hg _, fun z => ?_, fun b hb => ?_, s1.free hg⟩
    · obtain ⟨o, ho, _⟩ := foot_all B0 g z
      rw [hg] at ho
      cases ho
    · rcases List.mem_cons.mp hb with z | hb
      · exact z ▸ nd
      rcases List.mem_cons.mp hb with z | hb
      · exact z ▸ flt
      · exact absurd hb (by simp)
  -- while at < len(calls)
  refine ⟨fun m σ H' => ∃ (i : Nat) (D : DR) (st : Option Abs) (out : List Int) (v4 v5 v6 : Option V), m = ns.length - i ∧ D.d = d ∧ σ = [some (.ref a), some (.ref d), some (.ref g), some (.int i), v4, v5, v6] ∧ Loop A H ns g H' D st i out,
    ⟨_, 0, ⟨d, lt, []⟩, none, [], none, none, none, rfl, rfl, rfl, L0⟩, ?_⟩
  rintro m σ H' ⟨i, D, st, out, v4, v5, v6, rfl, hdd, rfl, L⟩
  refine ⟨_, rfl, _, rfl, a, _, rfl, .inl (L.same.seq hS), _, _, rfl, rfl, _, rfl, ?_⟩
  rw [List.length_map]
  obtain ⟨f, cs, hcs, hout⟩ := L.rest
  by_cases hi : (i : Int) < (ns.length : Int)
  case neg =>
    rw [decide_eq_false hi]
    have e : i = ns.length := by have := L.le; omega
    -- return given
    refine ⟨_, rfl, ?_⟩
    refine k H' g ?_
    rw [e, List.drop_length] at hcs
    have e2 : cs = [] := by
      cases f with
      | zero => exact (Option.some.inj hcs).symm
      | succ f => exact (Option.some.inj hcs).symm
    rw [e2] at hout
    rw [hout, L.out_]
    show _ = some (HO.lst ((out ++ []).map V.int))
    rw [List.append_nil]
  rw [decide_eq_true hi]
  have hi : i < ns.length := by omega
  obtain ⟨p, r, hpr⟩ : ∃ p r, ns.drop i = p :: r := by
    cases e : ns.drop i with
    | nil => have := congrArg List.length e; rw [List.length_drop] at this; simp at this; omega
    | cons p r => exact ⟨p, r, rfl⟩
  have hat : ns[i]? = some p := by
    have := congrArg (fun l => l[0]?) hpr
    simpa using this
  have hr1 : ns.drop (i + 1) = r := by
    have := congrArg List.tail hpr
    simpa using this
  rw [hpr] at hcs
  obtain ⟨f', c, cs', e1, e2, e3, e4, e5⟩ := CupFlat.calls_cons hcs fun y hy => hn y (List.mem_of_mem_drop (hpr ▸ hy))
  have hlr : r.length = ns.length - (i + 1) := by rw [← hr1, List.length_drop]
  refine ⟨fun σ' H'' => ∃ (D' : DR) (out' : List Int) (v4 v5 v6 : Option V), D'.d = d ∧ σ' = [some (.ref a), some (.ref d), some (.ref g), some (.int ((i + 1 + (encC c).2.length : Nat) : Int)), v4, v5, v6] ∧ Loop A H ns g H'' D' (doing st c).1 (i + 1 + (encC c).2.length) out', ?_, ?_⟩
  · rintro σ' H'' ⟨D', out', w4, w5, w6, h1, h2, h3⟩
    exact ⟨_, (by show ns.length - (i + 1 + (encC c).2.length) < ns.length - i; omega), _, D', _, out', w4, w5, w6, rfl, h1, h2, h3⟩
  -- number = calls[at]
  refine ⟨_, rfl, _, rfl, a, _, _, _, rfl, rfl, L.same.seq hS, at_of (j := i) (v := V.int p) rfl (by rw [List.getElem?_map, hat]; rfl), ?_⟩
  -- behind = at + 1 + WIDTHS[number]
  refine ⟨_, rfl, _, _, rfl, rfl, _, rfl, A.q_WIDTHS, _, _, _, rfl, rfl, T.s_WIDTHS H', at_of (j := (encC c).1) (v := V.int (encC c).2.length) e1 (by show (widths.map V.int)[_]? = _; rw [List.getElem?_map, CupFlat.enc_width]; rfl), _, _, rfl, rfl, ?_⟩
  -- told = answer(day, number, calls[at + 1:behind])
  refine ⟨_, rfl, _, rfl, _, rfl, _, rfl, _, _, rfl, rfl, _, rfl, _, rfl, _, rfl, a, _, rfl, L.same.seq hS, fun ln hln => ?_⟩
  have ecut : cutV (ns.map V.int) (some ((i : Int) + 1)) (some ((i : Int) + 1 + ((encC c).2.length : Int))) = nv (encC c).2 := by
    have h1 : (i : Int) + 1 = ((i + 1 : Nat) : Int) := by omega
    have h2 : (i : Int) + 1 + ((encC c).2.length : Int) = ((i + 1 + (encC c).2.length : Nat) : Int) := by omega
    rw [h2, h1, cut_both (by omega) (by rw [List.length_map]; omega), ← List.map_drop, hr1, ← List.map_take, show i + 1 + (encC c).2.length - (i + 1) = (encC c).2.length by omega, e2, nv_asInts]
  have s2 : Same H' (upd H' ln (.lst (cutV (ns.map V.int) (some ((i : Int) + 1)) (some ((i : Int) + 1 + ((encC c).2.length : Int)))))) := same_new hln _
  refine ⟨D, st, ln, c, (by rw [hdd, e1]; rfl), L.day.same s2, (by rw [upd_same, ecut]), ?_⟩
  intro H2 D2 q B2 hd2 fq hq kp2 ft2
  have ng : H' g ≠ none := by rw [L.out_]; exact fun z => by cases z
  have hg2 : H2 g = some (.lst (out.map V.int)) := kp2 g _ (s2 _ _ L.out_) L.gn
  have gn2 : g ∉ D2.foot := fun z => (ft2 g z).elim L.gn fun z => ng (s2.free z)
  have same2 : Same H H2 := fun b o e => kp2 b o (s2 b o (L.same b o e)) fun z => by rw [L.fresh b z] at e; cases e
  have fresh2 : ∀ b ∈ D2.foot, H b = none := fun b hb => (ft2 b hb).elim (fun z => L.fresh b z) fun z => (L.same.trans s2).free z
  have hout2 := hout
  rw [e5 st, CupFlat.told_cons] at hout2
  have hlen : out.length + 1 + (ansOf (doing st c)).length ≤ 10000000 := by
    have := congrArg List.length hout2
    simp only [List.length_append, List.length_cons] at this
    have e : (ansOf (doing st c)).length = (doing st c).2.out.length + 1 := rfl
    omega
  have big : (10000000 : Nat) ≤ sizeLine := by decide
  -- given.append(len(told))
  refine ⟨_, rfl, .inl ⟨rfl, _, SqL.of hg2⟩, _, rfl, q, _, rfl, .inl (SqL.of hq), g, _, _, rfl, rfl, hg2, (by rw [List.length_map]; omega), ?_⟩
  have nqg : q ≠ g := fun z => ng (s2.free (z ▸ fq))
  -- given.extend(told)
  refine ⟨_, rfl, .inl ⟨rfl, _, SqL.of upd_same⟩, _, rfl, g, q, _, _, rfl, rfl, upd_same, (by rw [upd_ne nqg]; exact hq), (by simp only [List.length_append, List.length_map, List.length_cons, List.length_nil]; omega), ?_⟩
  -- at = behind
  refine ⟨_, rfl, ?_⟩
  have kp3 : ∀ b o, H2 b = some o → b ≠ g → (upd (upd H2 g (.lst (out.map V.int ++ [V.int ((ansOf (doing st c)).map V.int).length]))) g (.lst (out.map V.int ++ [V.int ((ansOf (doing st c)).map V.int).length] ++ (ansOf (doing st c)).map V.int))) b = some o := fun b o e hb => by
    rw [upd_ne hb, upd_ne hb]
    exact e
  refine ⟨D2, out ++ ((ansOf (doing st c)).length : Int) :: ansOf (doing st c), _, _, _, hd2.trans hdd, rfl, ⟨by omega, ⟨f', cs', ?_, ?_⟩, B2.out gn2 kp3 (fun xs z => by rw [hg2] at z; cases z), ?_, fun b o e => kp3 b o (same2 b o e) (ne_of_none e L.gf), gn2, fresh2, L.gf⟩⟩
  · rw [← List.drop_drop, hr1]
    exact e4
  · rw [hout2]
    show _ = out ++ (((ansOf (doing st c)).length : Int) :: ansOf (doing st c)) ++ _
    rw [List.append_assoc]
    rfl
  · rw [upd_same, List.length_map, List.map_append, List.append_assoc]
    rfl
end
end Cup
end

section
set_option Elab.async false
set_option linter.all false
set_option maxRecDepth 100000
set_option maxHeartbeats 4000000
/-! What the top has written, and the row's head. -/
namespace Cup
open PySem PySem.Spec PyProof.Rows L2
open PySem.W (Codec)
def DefAt (K : PySem.W.Frag) (x qual : Str) (st : Stmt) (ps : List Str) (f : Addr) : Prop := ∃ fd : FuncData, Fun K x qual st f fd ∧ ∀ us : List Value, us.length = ps.length → bindArgs fd ⟨us, []⟩ = pure (ps.zip us)
theorem defAt_mk {K : PySem.W.Frag} {x qual : Str} {st : Stmt} {ps : List Str} {f : Addr} {oc : Value} {od an : Option Addr} {osl : Array (Option Value)} {kV doc pm cdv ct : Value}
    (l : K.lookup f = some ⟨oc, od, .func (PySem.W.fnOf x qual (defArgs st) (defBody st) (defScope st) .none kV doc pm an cdv ct), osl⟩) (c : PySem.W.codeIn K cdv qual = true) (k : PySem.W.keepIn K (.ref f) = true)
    (h : ∀ (kV doc pm : Value) (an : Option Addr) (cdv ct : Value) (us : List Value), us.length = ps.length → bindArgs (PySem.W.fnOf x qual (defArgs st) (defBody st) (defScope st) .none kV doc pm an cdv ct) ⟨us, []⟩ = pure (ps.zip us)) : DefAt K x qual st ps f :=
  ⟨_, fun_mk (st := st) l c k, h kV doc pm an cdv ct⟩
theorem txt_mk {K : PySem.W.Frag} {h : Heap} {mg : Str → Option Value} {C_Day C_Table f_Day_init f_Day_all_stock f_Day_all_wanted_up_to f_Day_all_brought_up_to f_Day_leasts f_Day_all_lacking_behind f_Day_least_together f_Day_tables_too_short f_Day_can_be_level f_Day_over_gaps f_Day_make_level f_Table_init f_Table_wanted_in f_Table_wanted_up_to f_Table_brought_up_to f_Table_there_behind f_Table_lacking_behind f_Table_least_needed f_Table_first_too_few f_Table_most_wanted f_Table_filled_up f_begin f_add_table f_add_pass f_bring f_take f_set_stock f_wants f_there f_least f_short f_enough f_apart f_together f_latest f_fewest f_steps_over f_steps f_level f_look f_sums f_answer_at_table f_answer f_answers q_WIDTHS q_DAY_CALLS q_TABLE_CALLS : Addr} {t_MOST_MINUTES t_MOST_TABLES t_MOST_TAKEN t_MOST_CUPS t_MOST_PASSES t_MOST_RUNNERS t_MOST_DELIVERIES t_NO_TABLE t_NONE_THERE t_NOT_AS_TOLD t_FULL t_CANNOT_BE t_NOT_BEGUN t_BEGIN : Tok} {o_WIDTHS o_DAY_CALLS o_TABLE_CALLS : Obj} (X : K.In h) (G : h.Ns mainGlobals mg)
    (a_Day : PySem.W.nsIn K mainGlobals "Day" = some (some (.ref C_Day)))
    (a_Table : PySem.W.nsIn K mainGlobals "Table" = some (some (.ref C_Table)))
    (a_Day_init : PySem.W.findIn K (.ref C_Day) "__init__" = some (some (.ref f_Day_init)))
    (D_Day_init : DefAt K "__init__" "Day.__init__" s_Day_init ["self"] f_Day_init)
    (i_Day_init : PySem.W.isFn K (.ref f_Day_init) = true)
    (a_Day_all_stock : PySem.W.findIn K (.ref C_Day) "all_stock" = some (some (.ref f_Day_all_stock)))
    (D_Day_all_stock : DefAt K "all_stock" "Day.all_stock" s_Day_all_stock ["self"] f_Day_all_stock)
    (i_Day_all_stock : PySem.W.isFn K (.ref f_Day_all_stock) = true)
    (a_Day_all_wanted_up_to : PySem.W.findIn K (.ref C_Day) "all_wanted_up_to" = some (some (.ref f_Day_all_wanted_up_to)))
    (D_Day_all_wanted_up_to : DefAt K "all_wanted_up_to" "Day.all_wanted_up_to" s_Day_all_wanted_up_to ["self", "minute"] f_Day_all_wanted_up_to)
    (i_Day_all_wanted_up_to : PySem.W.isFn K (.ref f_Day_all_wanted_up_to) = true)
    (a_Day_all_brought_up_to : PySem.W.findIn K (.ref C_Day) "all_brought_up_to" = some (some (.ref f_Day_all_brought_up_to)))
    (D_Day_all_brought_up_to : DefAt K "all_brought_up_to" "Day.all_brought_up_to" s_Day_all_brought_up_to ["self", "minute"] f_Day_all_brought_up_to)
    (i_Day_all_brought_up_to : PySem.W.isFn K (.ref f_Day_all_brought_up_to) = true)
    (a_Day_leasts : PySem.W.findIn K (.ref C_Day) "leasts" = some (some (.ref f_Day_leasts)))
    (D_Day_leasts : DefAt K "leasts" "Day.leasts" s_Day_leasts ["self"] f_Day_leasts)
    (i_Day_leasts : PySem.W.isFn K (.ref f_Day_leasts) = true)
    (a_Day_all_lacking_behind : PySem.W.findIn K (.ref C_Day) "all_lacking_behind" = some (some (.ref f_Day_all_lacking_behind)))
    (D_Day_all_lacking_behind : DefAt K "all_lacking_behind" "Day.all_lacking_behind" s_Day_all_lacking_behind ["self", "minute"] f_Day_all_lacking_behind)
    (i_Day_all_lacking_behind : PySem.W.isFn K (.ref f_Day_all_lacking_behind) = true)
    (a_Day_least_together : PySem.W.findIn K (.ref C_Day) "least_together" = some (some (.ref f_Day_least_together)))
    (D_Day_least_together : DefAt K "least_together" "Day.least_together" s_Day_least_together ["self"] f_Day_least_together)
    (i_Day_least_together : PySem.W.isFn K (.ref f_Day_least_together) = true)
    (a_Day_tables_too_short : PySem.W.findIn K (.ref C_Day) "tables_too_short" = some (some (.ref f_Day_tables_too_short)))
    (D_Day_tables_too_short : DefAt K "tables_too_short" "Day.tables_too_short" s_Day_tables_too_short ["self"] f_Day_tables_too_short)
    (i_Day_tables_too_short : PySem.W.isFn K (.ref f_Day_tables_too_short) = true)
    (a_Day_can_be_level : PySem.W.findIn K (.ref C_Day) "can_be_level" = some (some (.ref f_Day_can_be_level)))
    (D_Day_can_be_level : DefAt K "can_be_level" "Day.can_be_level" s_Day_can_be_level ["self"] f_Day_can_be_level)
    (i_Day_can_be_level : PySem.W.isFn K (.ref f_Day_can_be_level) = true)
    (a_Day_over_gaps : PySem.W.findIn K (.ref C_Day) "over_gaps" = some (some (.ref f_Day_over_gaps)))
    (D_Day_over_gaps : DefAt K "over_gaps" "Day.over_gaps" s_Day_over_gaps ["self"] f_Day_over_gaps)
    (i_Day_over_gaps : PySem.W.isFn K (.ref f_Day_over_gaps) = true)
    (a_Day_make_level : PySem.W.findIn K (.ref C_Day) "make_level" = some (some (.ref f_Day_make_level)))
    (D_Day_make_level : DefAt K "make_level" "Day.make_level" s_Day_make_level ["self"] f_Day_make_level)
    (i_Day_make_level : PySem.W.isFn K (.ref f_Day_make_level) = true)
    (a_Table_init : PySem.W.findIn K (.ref C_Table) "__init__" = some (some (.ref f_Table_init)))
    (D_Table_init : DefAt K "__init__" "Table.__init__" s_Table_init ["self", "takes", "stock"] f_Table_init)
    (i_Table_init : PySem.W.isFn K (.ref f_Table_init) = true)
    (a_Table_wanted_in : PySem.W.findIn K (.ref C_Table) "wanted_in" = some (some (.ref f_Table_wanted_in)))
    (D_Table_wanted_in : DefAt K "wanted_in" "Table.wanted_in" s_Table_wanted_in ["self", "minute"] f_Table_wanted_in)
    (i_Table_wanted_in : PySem.W.isFn K (.ref f_Table_wanted_in) = true)
    (a_Table_wanted_up_to : PySem.W.findIn K (.ref C_Table) "wanted_up_to" = some (some (.ref f_Table_wanted_up_to)))
    (D_Table_wanted_up_to : DefAt K "wanted_up_to" "Table.wanted_up_to" s_Table_wanted_up_to ["self", "minute"] f_Table_wanted_up_to)
    (i_Table_wanted_up_to : PySem.W.isFn K (.ref f_Table_wanted_up_to) = true)
    (a_Table_brought_up_to : PySem.W.findIn K (.ref C_Table) "brought_up_to" = some (some (.ref f_Table_brought_up_to)))
    (D_Table_brought_up_to : DefAt K "brought_up_to" "Table.brought_up_to" s_Table_brought_up_to ["self", "minute"] f_Table_brought_up_to)
    (i_Table_brought_up_to : PySem.W.isFn K (.ref f_Table_brought_up_to) = true)
    (a_Table_there_behind : PySem.W.findIn K (.ref C_Table) "there_behind" = some (some (.ref f_Table_there_behind)))
    (D_Table_there_behind : DefAt K "there_behind" "Table.there_behind" s_Table_there_behind ["self", "minute"] f_Table_there_behind)
    (i_Table_there_behind : PySem.W.isFn K (.ref f_Table_there_behind) = true)
    (a_Table_lacking_behind : PySem.W.findIn K (.ref C_Table) "lacking_behind" = some (some (.ref f_Table_lacking_behind)))
    (D_Table_lacking_behind : DefAt K "lacking_behind" "Table.lacking_behind" s_Table_lacking_behind ["self", "minute"] f_Table_lacking_behind)
    (i_Table_lacking_behind : PySem.W.isFn K (.ref f_Table_lacking_behind) = true)
    (a_Table_least_needed : PySem.W.findIn K (.ref C_Table) "least_needed" = some (some (.ref f_Table_least_needed)))
    (D_Table_least_needed : DefAt K "least_needed" "Table.least_needed" s_Table_least_needed ["self", "minutes"] f_Table_least_needed)
    (i_Table_least_needed : PySem.W.isFn K (.ref f_Table_least_needed) = true)
    (a_Table_first_too_few : PySem.W.findIn K (.ref C_Table) "first_too_few" = some (some (.ref f_Table_first_too_few)))
    (D_Table_first_too_few : DefAt K "first_too_few" "Table.first_too_few" s_Table_first_too_few ["self", "minutes"] f_Table_first_too_few)
    (i_Table_first_too_few : PySem.W.isFn K (.ref f_Table_first_too_few) = true)
    (a_Table_most_wanted : PySem.W.findIn K (.ref C_Table) "most_wanted" = some (some (.ref f_Table_most_wanted)))
    (D_Table_most_wanted : DefAt K "most_wanted" "Table.most_wanted" s_Table_most_wanted ["self", "minutes"] f_Table_most_wanted)
    (i_Table_most_wanted : PySem.W.isFn K (.ref f_Table_most_wanted) = true)
    (a_Table_filled_up : PySem.W.findIn K (.ref C_Table) "filled_up" = some (some (.ref f_Table_filled_up)))
    (D_Table_filled_up : DefAt K "filled_up" "Table.filled_up" s_Table_filled_up ["self", "holds", "minutes"] f_Table_filled_up)
    (i_Table_filled_up : PySem.W.isFn K (.ref f_Table_filled_up) = true)
    (a_begin : PySem.W.nsIn K mainGlobals "begin" = some (some (.ref f_begin)))
    (D_begin : DefAt K "begin" "begin" s_begin ["day", "numbers"] f_begin)
    (a_add_table : PySem.W.nsIn K mainGlobals "add_table" = some (some (.ref f_add_table)))
    (D_add_table : DefAt K "add_table" "add_table" s_add_table ["day", "numbers"] f_add_table)
    (a_add_pass : PySem.W.nsIn K mainGlobals "add_pass" = some (some (.ref f_add_pass)))
    (D_add_pass : DefAt K "add_pass" "add_pass" s_add_pass ["day", "table", "numbers"] f_add_pass)
    (a_bring : PySem.W.nsIn K mainGlobals "bring" = some (some (.ref f_bring)))
    (D_bring : DefAt K "bring" "bring" s_bring ["day", "table", "numbers"] f_bring)
    (a_take : PySem.W.nsIn K mainGlobals "take" = some (some (.ref f_take)))
    (D_take : DefAt K "take" "take" s_take ["day", "table", "numbers"] f_take)
    (a_set_stock : PySem.W.nsIn K mainGlobals "set_stock" = some (some (.ref f_set_stock)))
    (D_set_stock : DefAt K "set_stock" "set_stock" s_set_stock ["day", "table", "numbers"] f_set_stock)
    (a_wants : PySem.W.nsIn K mainGlobals "wants" = some (some (.ref f_wants)))
    (D_wants : DefAt K "wants" "wants" s_wants ["day", "table", "numbers"] f_wants)
    (a_there : PySem.W.nsIn K mainGlobals "there" = some (some (.ref f_there)))
    (D_there : DefAt K "there" "there" s_there ["day", "table", "numbers"] f_there)
    (a_least : PySem.W.nsIn K mainGlobals "least" = some (some (.ref f_least)))
    (D_least : DefAt K "least" "least" s_least ["day", "table", "numbers"] f_least)
    (a_short : PySem.W.nsIn K mainGlobals "short" = some (some (.ref f_short)))
    (D_short : DefAt K "short" "short" s_short ["day", "table", "numbers"] f_short)
    (a_enough : PySem.W.nsIn K mainGlobals "enough" = some (some (.ref f_enough)))
    (D_enough : DefAt K "enough" "enough" s_enough ["day", "numbers"] f_enough)
    (a_apart : PySem.W.nsIn K mainGlobals "apart" = some (some (.ref f_apart)))
    (D_apart : DefAt K "apart" "apart" s_apart ["day", "numbers"] f_apart)
    (a_together : PySem.W.nsIn K mainGlobals "together" = some (some (.ref f_together)))
    (D_together : DefAt K "together" "together" s_together ["day", "numbers"] f_together)
    (a_latest : PySem.W.nsIn K mainGlobals "latest" = some (some (.ref f_latest)))
    (D_latest : DefAt K "latest" "latest" s_latest ["day", "table", "numbers"] f_latest)
    (a_fewest : PySem.W.nsIn K mainGlobals "fewest" = some (some (.ref f_fewest)))
    (D_fewest : DefAt K "fewest" "fewest" s_fewest ["day", "table", "numbers"] f_fewest)
    (a_steps_over : PySem.W.nsIn K mainGlobals "steps_over" = some (some (.ref f_steps_over)))
    (D_steps_over : DefAt K "steps_over" "steps_over" s_steps_over ["gaps"] f_steps_over)
    (a_steps : PySem.W.nsIn K mainGlobals "steps" = some (some (.ref f_steps)))
    (D_steps : DefAt K "steps" "steps" s_steps ["day", "numbers"] f_steps)
    (a_level : PySem.W.nsIn K mainGlobals "level" = some (some (.ref f_level)))
    (D_level : DefAt K "level" "level" s_level ["day", "numbers"] f_level)
    (a_look : PySem.W.nsIn K mainGlobals "look" = some (some (.ref f_look)))
    (D_look : DefAt K "look" "look" s_look ["day", "table", "numbers"] f_look)
    (a_sums : PySem.W.nsIn K mainGlobals "sums" = some (some (.ref f_sums)))
    (D_sums : DefAt K "sums" "sums" s_sums ["day", "numbers"] f_sums)
    (a_answer_at_table : PySem.W.nsIn K mainGlobals "answer_at_table" = some (some (.ref f_answer_at_table)))
    (D_answer_at_table : DefAt K "answer_at_table" "answer_at_table" s_answer_at_table ["day", "number", "numbers"] f_answer_at_table)
    (a_answer : PySem.W.nsIn K mainGlobals "answer" = some (some (.ref f_answer)))
    (D_answer : DefAt K "answer" "answer" s_answer ["day", "number", "numbers"] f_answer)
    (a_answers : PySem.W.nsIn K mainGlobals "answers" = some (some (.ref f_answers)))
    (D_answers : DefAt K "answers" "answers" s_answers ["calls"] f_answers)
    (pg_Day : PySem.W.plainGet K C_Day Str.empty = true)
    (hd_Day : PySem.W.hasDictIn K C_Day = true)
    (po_Day : PySem.W.plainOver K C_Day = true)
    (sa_Day : PySem.W.findIn K (.ref C_Day) "__setattr__" = some (some (.builtin "object.__setattr__")))
    (mk_Day : PySem.W.makesIn K C_Day = true)
    (kc_Day : PySem.W.keepIn K (.ref C_Day) = true)
    (n_Day_minutes : PySem.W.findIn K (.ref C_Day) "minutes" = some none)
    (n_Day_stock : PySem.W.findIn K (.ref C_Day) "stock" = some none)
    (n_Day_tables : PySem.W.findIn K (.ref C_Day) "tables" = some none)
    (pg_Table : PySem.W.plainGet K C_Table Str.empty = true)
    (hd_Table : PySem.W.hasDictIn K C_Table = true)
    (po_Table : PySem.W.plainOver K C_Table = true)
    (sa_Table : PySem.W.findIn K (.ref C_Table) "__setattr__" = some (some (.builtin "object.__setattr__")))
    (mk_Table : PySem.W.makesIn K C_Table = true)
    (kc_Table : PySem.W.keepIn K (.ref C_Table) = true)
    (n_Table_deliveries : PySem.W.findIn K (.ref C_Table) "deliveries" = some none)
    (n_Table_passes : PySem.W.findIn K (.ref C_Table) "passes" = some none)
    (n_Table_stock : PySem.W.findIn K (.ref C_Table) "stock" = some none)
    (n_Table_takes : PySem.W.findIn K (.ref C_Table) "takes" = some none)
    (c_MOST_MINUTES : PySem.W.nsIn K mainGlobals "MOST_MINUTES" = some (some (.int (400) t_MOST_MINUTES)))
    (c_MOST_TABLES : PySem.W.nsIn K mainGlobals "MOST_TABLES" = some (some (.int (5) t_MOST_TABLES)))
    (c_MOST_TAKEN : PySem.W.nsIn K mainGlobals "MOST_TAKEN" = some (some (.int (9) t_MOST_TAKEN)))
    (c_MOST_CUPS : PySem.W.nsIn K mainGlobals "MOST_CUPS" = some (some (.int (100000) t_MOST_CUPS)))
    (c_MOST_PASSES : PySem.W.nsIn K mainGlobals "MOST_PASSES" = some (some (.int (6) t_MOST_PASSES)))
    (c_MOST_RUNNERS : PySem.W.nsIn K mainGlobals "MOST_RUNNERS" = some (some (.int (1000) t_MOST_RUNNERS)))
    (c_MOST_DELIVERIES : PySem.W.nsIn K mainGlobals "MOST_DELIVERIES" = some (some (.int (6) t_MOST_DELIVERIES)))
    (c_NO_TABLE : PySem.W.nsIn K mainGlobals "NO_TABLE" = some (some (.int (-2) t_NO_TABLE)))
    (c_NONE_THERE : PySem.W.nsIn K mainGlobals "NONE_THERE" = some (some (.int (-6) t_NONE_THERE)))
    (c_NOT_AS_TOLD : PySem.W.nsIn K mainGlobals "NOT_AS_TOLD" = some (some (.int (-22) t_NOT_AS_TOLD)))
    (c_FULL : PySem.W.nsIn K mainGlobals "FULL" = some (some (.int (-28) t_FULL)))
    (c_CANNOT_BE : PySem.W.nsIn K mainGlobals "CANNOT_BE" = some (some (.int (-33) t_CANNOT_BE)))
    (c_NOT_BEGUN : PySem.W.nsIn K mainGlobals "NOT_BEGUN" = some (some (.int (-61) t_NOT_BEGUN)))
    (c_BEGIN : PySem.W.nsIn K mainGlobals "BEGIN" = some (some (.int (0) t_BEGIN)))
    (a_WIDTHS : PySem.W.nsIn K mainGlobals "WIDTHS" = some (some (.ref q_WIDTHS)))
    (l_WIDTHS : K.lookup q_WIDTHS = some o_WIDTHS)
    (s_WIDTHS : tupB o_WIDTHS [(1), (2), (4), (3), (1), (2), (2), (2), (1), (1), (0), (0), (0), (2), (2), (0), (0), (1), (0)] = true)
    (a_DAY_CALLS : PySem.W.nsIn K mainGlobals "DAY_CALLS" = some (some (.ref q_DAY_CALLS)))
    (l_DAY_CALLS : K.lookup q_DAY_CALLS = some o_DAY_CALLS)
    (s_DAY_CALLS : dictB o_DAY_CALLS [(1, f_add_table), (10, f_enough), (11, f_apart), (12, f_together), (15, f_steps), (16, f_level), (18, f_sums)] = true)
    (y_DAY_CALLS : (q_DAY_CALLS == sysModules) = false)
    (a_TABLE_CALLS : PySem.W.nsIn K mainGlobals "TABLE_CALLS" = some (some (.ref q_TABLE_CALLS)))
    (l_TABLE_CALLS : K.lookup q_TABLE_CALLS = some o_TABLE_CALLS)
    (s_TABLE_CALLS : dictB o_TABLE_CALLS [(2, f_add_pass), (3, f_bring), (4, f_take), (5, f_set_stock), (6, f_wants), (7, f_there), (8, f_least), (9, f_short), (13, f_latest), (14, f_fewest), (17, f_look)] = true)
    (y_TABLE_CALLS : (q_TABLE_CALLS == sysModules) = false)
    (z_abs : PySem.W.nsIn K mainGlobals "abs" = some none)
    (z_enumerate : PySem.W.nsIn K mainGlobals "enumerate" = some none)
    (z_len : PySem.W.nsIn K mainGlobals "len" = some none)
    (z_max : PySem.W.nsIn K mainGlobals "max" = some none)
    (z_min : PySem.W.nsIn K mainGlobals "min" = some none)
    (z_range : PySem.W.nsIn K mainGlobals "range" = some none)
    (z_sum : PySem.W.nsIn K mainGlobals "sum" = some none)
    (z_zip : PySem.W.nsIn K mainGlobals "zip" = some none) :
    ∃ A : Ad, Txt K mg A ∧ ∀ us, us.length = (["calls"] : List Str).length → bindArgs A.d_answers ⟨us, []⟩ = pure ((["calls"] : List Str).zip us) := by
  obtain ⟨d_Day_init, F_Day_init, b_Day_init⟩ := D_Day_init
  obtain ⟨d_Day_all_stock, F_Day_all_stock, b_Day_all_stock⟩ := D_Day_all_stock
  obtain ⟨d_Day_all_wanted_up_to, F_Day_all_wanted_up_to, b_Day_all_wanted_up_to⟩ := D_Day_all_wanted_up_to
  obtain ⟨d_Day_all_brought_up_to, F_Day_all_brought_up_to, b_Day_all_brought_up_to⟩ := D_Day_all_brought_up_to
  obtain ⟨d_Day_leasts, F_Day_leasts, b_Day_leasts⟩ := D_Day_leasts
  obtain ⟨d_Day_all_lacking_behind, F_Day_all_lacking_behind, b_Day_all_lacking_behind⟩ := D_Day_all_lacking_behind
  obtain ⟨d_Day_least_together, F_Day_least_together, b_Day_least_together⟩ := D_Day_least_together
  obtain ⟨d_Day_tables_too_short, F_Day_tables_too_short, b_Day_tables_too_short⟩ := D_Day_tables_too_short
  obtain ⟨d_Day_can_be_level, F_Day_can_be_level, b_Day_can_be_level⟩ := D_Day_can_be_level
  obtain ⟨d_Day_over_gaps, F_Day_over_gaps, b_Day_over_gaps⟩ := D_Day_over_gaps
  obtain ⟨d_Day_make_level, F_Day_make_level, b_Day_make_level⟩ := D_Day_make_level
  obtain ⟨d_Table_init, F_Table_init, b_Table_init⟩ := D_Table_init
  obtain ⟨d_Table_wanted_in, F_Table_wanted_in, b_Table_wanted_in⟩ := D_Table_wanted_in
  obtain ⟨d_Table_wanted_up_to, F_Table_wanted_up_to, b_Table_wanted_up_to⟩ := D_Table_wanted_up_to
  obtain ⟨d_Table_brought_up_to, F_Table_brought_up_to, b_Table_brought_up_to⟩ := D_Table_brought_up_to
  obtain ⟨d_Table_there_behind, F_Table_there_behind, b_Table_there_behind⟩ := D_Table_there_behind
  obtain ⟨d_Table_lacking_behind, F_Table_lacking_behind, b_Table_lacking_behind⟩ := D_Table_lacking_behind
  obtain ⟨d_Table_least_needed, F_Table_least_needed, b_Table_least_needed⟩ := D_Table_least_needed
  obtain ⟨d_Table_first_too_few, F_Table_first_too_few, b_Table_first_too_few⟩ := D_Table_first_too_few
  obtain ⟨d_Table_most_wanted, F_Table_most_wanted, b_Table_most_wanted⟩ := D_Table_most_wanted
  obtain ⟨d_Table_filled_up, F_Table_filled_up, b_Table_filled_up⟩ := D_Table_filled_up
  obtain ⟨d_begin, F_begin, b_begin⟩ := D_begin
  obtain ⟨d_add_table, F_add_table, b_add_table⟩ := D_add_table
  obtain ⟨d_add_pass, F_add_pass, b_add_pass⟩ := D_add_pass
  obtain ⟨d_bring, F_bring, b_bring⟩ := D_bring
  obtain ⟨d_take, F_take, b_take⟩ := D_take
  obtain ⟨d_set_stock, F_set_stock, b_set_stock⟩ := D_set_stock
  obtain ⟨d_wants, F_wants, b_wants⟩ := D_wants
  obtain ⟨d_there, F_there, b_there⟩ := D_there
  obtain ⟨d_least, F_least, b_least⟩ := D_least
  obtain ⟨d_short, F_short, b_short⟩ := D_short
  obtain ⟨d_enough, F_enough, b_enough⟩ := D_enough
  obtain ⟨d_apart, F_apart, b_apart⟩ := D_apart
  obtain ⟨d_together, F_together, b_together⟩ := D_together
  obtain ⟨d_latest, F_latest, b_latest⟩ := D_latest
  obtain ⟨d_fewest, F_fewest, b_fewest⟩ := D_fewest
  obtain ⟨d_steps_over, F_steps_over, b_steps_over⟩ := D_steps_over
  obtain ⟨d_steps, F_steps, b_steps⟩ := D_steps
  obtain ⟨d_level, F_level, b_level⟩ := D_level
  obtain ⟨d_look, F_look, b_look⟩ := D_look
  obtain ⟨d_sums, F_sums, b_sums⟩ := D_sums
  obtain ⟨d_answer_at_table, F_answer_at_table, b_answer_at_table⟩ := D_answer_at_table
  obtain ⟨d_answer, F_answer, b_answer⟩ := D_answer
  obtain ⟨d_answers, F_answers, b_answers⟩ := D_answers
  exact ⟨⟨C_Day, C_Table, f_Day_init, d_Day_init, f_Day_all_stock, d_Day_all_stock, f_Day_all_wanted_up_to, d_Day_all_wanted_up_to, f_Day_all_brought_up_to, d_Day_all_brought_up_to, f_Day_leasts, d_Day_leasts, f_Day_all_lacking_behind, d_Day_all_lacking_behind, f_Day_least_together, d_Day_least_together, f_Day_tables_too_short, d_Day_tables_too_short, f_Day_can_be_level, d_Day_can_be_level, f_Day_over_gaps, d_Day_over_gaps, f_Day_make_level, d_Day_make_level, f_Table_init, d_Table_init, f_Table_wanted_in, d_Table_wanted_in, f_Table_wanted_up_to, d_Table_wanted_up_to, f_Table_brought_up_to, d_Table_brought_up_to, f_Table_there_behind, d_Table_there_behind, f_Table_lacking_behind, d_Table_lacking_behind, f_Table_least_needed, d_Table_least_needed, f_Table_first_too_few, d_Table_first_too_few, f_Table_most_wanted, d_Table_most_wanted, f_Table_filled_up, d_Table_filled_up, f_begin, d_begin, f_add_table, d_add_table, f_add_pass, d_add_pass, f_bring, d_bring, f_take, d_take, f_set_stock, d_set_stock, f_wants, d_wants, f_there, d_there, f_least, d_least, f_short, d_short, f_enough, d_enough, f_apart, d_apart, f_together, d_together, f_latest, d_latest, f_fewest, d_fewest, f_steps_over, d_steps_over, f_steps, d_steps, f_level, d_level, f_look, d_look, f_sums, d_sums, f_answer_at_table, d_answer_at_table, f_answer, d_answer, f_answers, d_answers, q_WIDTHS, q_DAY_CALLS, q_TABLE_CALLS⟩, ⟨⟨pg_Day, hd_Day, po_Day, sa_Day⟩,
    PySem.W.mg_of X G a_Day,
    ⟨mk_Day, a_Day_init, i_Day_init, kc_Day⟩,
    n_Day_minutes,
    n_Day_stock,
    n_Day_tables,
    ⟨pg_Table, hd_Table, po_Table, sa_Table⟩,
    PySem.W.mg_of X G a_Table,
    ⟨mk_Table, a_Table_init, i_Table_init, kc_Table⟩,
    n_Table_deliveries,
    n_Table_passes,
    n_Table_stock,
    n_Table_takes,
    F_Day_init,
    .all b_Day_init,
    F_Day_all_stock,
    .all b_Day_all_stock,
    ⟨a_Day_all_stock, i_Day_all_stock, F_Day_all_stock.kp⟩,
    F_Day_all_wanted_up_to,
    .all b_Day_all_wanted_up_to,
    ⟨a_Day_all_wanted_up_to, i_Day_all_wanted_up_to, F_Day_all_wanted_up_to.kp⟩,
    F_Day_all_brought_up_to,
    .all b_Day_all_brought_up_to,
    ⟨a_Day_all_brought_up_to, i_Day_all_brought_up_to, F_Day_all_brought_up_to.kp⟩,
    F_Day_leasts,
    .all b_Day_leasts,
    ⟨a_Day_leasts, i_Day_leasts, F_Day_leasts.kp⟩,
    F_Day_all_lacking_behind,
    .all b_Day_all_lacking_behind,
    ⟨a_Day_all_lacking_behind, i_Day_all_lacking_behind, F_Day_all_lacking_behind.kp⟩,
    F_Day_least_together,
    .all b_Day_least_together,
    ⟨a_Day_least_together, i_Day_least_together, F_Day_least_together.kp⟩,
    F_Day_tables_too_short,
    .all b_Day_tables_too_short,
    ⟨a_Day_tables_too_short, i_Day_tables_too_short, F_Day_tables_too_short.kp⟩,
    F_Day_can_be_level,
    .all b_Day_can_be_level,
    ⟨a_Day_can_be_level, i_Day_can_be_level, F_Day_can_be_level.kp⟩,
    F_Day_over_gaps,
    .all b_Day_over_gaps,
    ⟨a_Day_over_gaps, i_Day_over_gaps, F_Day_over_gaps.kp⟩,
    F_Day_make_level,
    .all b_Day_make_level,
    ⟨a_Day_make_level, i_Day_make_level, F_Day_make_level.kp⟩,
    F_Table_init,
    .all b_Table_init,
    F_Table_wanted_in,
    .all b_Table_wanted_in,
    ⟨a_Table_wanted_in, i_Table_wanted_in, F_Table_wanted_in.kp⟩,
    F_Table_wanted_up_to,
    .all b_Table_wanted_up_to,
    ⟨a_Table_wanted_up_to, i_Table_wanted_up_to, F_Table_wanted_up_to.kp⟩,
    F_Table_brought_up_to,
    .all b_Table_brought_up_to,
    ⟨a_Table_brought_up_to, i_Table_brought_up_to, F_Table_brought_up_to.kp⟩,
    F_Table_there_behind,
    .all b_Table_there_behind,
    ⟨a_Table_there_behind, i_Table_there_behind, F_Table_there_behind.kp⟩,
    F_Table_lacking_behind,
    .all b_Table_lacking_behind,
    ⟨a_Table_lacking_behind, i_Table_lacking_behind, F_Table_lacking_behind.kp⟩,
    F_Table_least_needed,
    .all b_Table_least_needed,
    ⟨a_Table_least_needed, i_Table_least_needed, F_Table_least_needed.kp⟩,
    F_Table_first_too_few,
    .all b_Table_first_too_few,
    ⟨a_Table_first_too_few, i_Table_first_too_few, F_Table_first_too_few.kp⟩,
    F_Table_most_wanted,
    .all b_Table_most_wanted,
    ⟨a_Table_most_wanted, i_Table_most_wanted, F_Table_most_wanted.kp⟩,
    F_Table_filled_up,
    .all b_Table_filled_up,
    ⟨a_Table_filled_up, i_Table_filled_up, F_Table_filled_up.kp⟩,
    F_begin,
    .all b_begin,
    PySem.W.mg_of X G a_begin,
    F_add_table,
    .all b_add_table,
    PySem.W.mg_of X G a_add_table,
    F_add_pass,
    .all b_add_pass,
    PySem.W.mg_of X G a_add_pass,
    F_bring,
    .all b_bring,
    PySem.W.mg_of X G a_bring,
    F_take,
    .all b_take,
    PySem.W.mg_of X G a_take,
    F_set_stock,
    .all b_set_stock,
    PySem.W.mg_of X G a_set_stock,
    F_wants,
    .all b_wants,
    PySem.W.mg_of X G a_wants,
    F_there,
    .all b_there,
    PySem.W.mg_of X G a_there,
    F_least,
    .all b_least,
    PySem.W.mg_of X G a_least,
    F_short,
    .all b_short,
    PySem.W.mg_of X G a_short,
    F_enough,
    .all b_enough,
    PySem.W.mg_of X G a_enough,
    F_apart,
    .all b_apart,
    PySem.W.mg_of X G a_apart,
    F_together,
    .all b_together,
    PySem.W.mg_of X G a_together,
    F_latest,
    .all b_latest,
    PySem.W.mg_of X G a_latest,
    F_fewest,
    .all b_fewest,
    PySem.W.mg_of X G a_fewest,
    F_steps_over,
    .all b_steps_over,
    PySem.W.mg_of X G a_steps_over,
    F_steps,
    .all b_steps,
    PySem.W.mg_of X G a_steps,
    F_level,
    .all b_level,
    PySem.W.mg_of X G a_level,
    F_look,
    .all b_look,
    PySem.W.mg_of X G a_look,
    F_sums,
    .all b_sums,
    PySem.W.mg_of X G a_sums,
    F_answer_at_table,
    .all b_answer_at_table,
    PySem.W.mg_of X G a_answer_at_table,
    F_answer,
    .all b_answer,
    PySem.W.mg_of X G a_answer,
    F_answers,
    .all b_answers,
    PySem.W.mg_of X G a_answers,
    ⟨_, PySem.W.mg_of X G c_MOST_MINUTES⟩,
    ⟨_, PySem.W.mg_of X G c_MOST_TABLES⟩,
    ⟨_, PySem.W.mg_of X G c_MOST_TAKEN⟩,
    ⟨_, PySem.W.mg_of X G c_MOST_CUPS⟩,
    ⟨_, PySem.W.mg_of X G c_MOST_PASSES⟩,
    ⟨_, PySem.W.mg_of X G c_MOST_RUNNERS⟩,
    ⟨_, PySem.W.mg_of X G c_MOST_DELIVERIES⟩,
    ⟨_, PySem.W.mg_of X G c_NO_TABLE⟩,
    ⟨_, PySem.W.mg_of X G c_NONE_THERE⟩,
    ⟨_, PySem.W.mg_of X G c_NOT_AS_TOLD⟩,
    ⟨_, PySem.W.mg_of X G c_FULL⟩,
    ⟨_, PySem.W.mg_of X G c_CANNOT_BE⟩,
    ⟨_, PySem.W.mg_of X G c_NOT_BEGUN⟩,
    ⟨_, PySem.W.mg_of X G c_BEGIN⟩,
    PySem.W.mg_of X G a_WIDTHS,
    tupB_sq l_WIDTHS s_WIDTHS,
    PySem.W.mg_of X G a_DAY_CALLS,
    ⟨⟨_, l_DAY_CALLS, s_DAY_CALLS⟩, y_DAY_CALLS, (by show ([1, 10, 11, 12, 15, 16, 18] : List Int).Nodup; decide)⟩,
    PySem.W.mg_of X G a_TABLE_CALLS,
    ⟨⟨_, l_TABLE_CALLS, s_TABLE_CALLS⟩, y_TABLE_CALLS, (by show ([2, 3, 4, 5, 6, 7, 8, 9, 13, 14, 17] : List Int).Nodup; decide)⟩,
    PySem.W.mg_none_of X G z_abs,
    PySem.W.mg_none_of X G z_enumerate,
    PySem.W.mg_none_of X G z_len,
    PySem.W.mg_none_of X G z_max,
    PySem.W.mg_none_of X G z_min,
    PySem.W.mg_none_of X G z_range,
    PySem.W.mg_none_of X G z_sum,
    PySem.W.mg_none_of X G z_zip⟩, b_answers⟩
theorem final {P : Program} {w : World} {K : PySem.W.Frag} {mg : Str → Option Value} {fa : Addr} (hmg : mg "answers" = some (.ref fa)) (h : ∃ A : Ad, Txt K mg A ∧ ∀ us, us.length = (["calls"] : List Str).length → bindArgs A.d_answers ⟨us, []⟩ = pure ((["calls"] : List Str).zip us)) :
    ∃ fd : FuncData, (∀ (s : Shared) (us : List Value), us.length = (["calls"] : List Str).length → BindsTo s fd ⟨us, []⟩ ((["calls"] : List Str).zip us)) ∧ ∀ base : Heap, K.In base → base.Ns mainGlobals mg → FnOk P w K mg base CX0 8 fa fd ["calls"] (spAnswers K) := by
  obtain ⟨A, T, e⟩ := h
  have q := hmg.symm.trans T.g_answers
  cases q
  exact ⟨A.d_answers, fun s us hu => .of_eq (e us hu), fun base _ _ => ok_answers_of ok_answer T⟩
end Cup
open PySem PySem.W PyProof.Rows
set_option maxRecDepth 100000 in
set_option maxHeartbeats 0 in
theorem PySem.Challenge.cw_cupsalong_s01_answers_holds : PySem.Challenge.rw_cupsalong_s01_answers.Holds := by
  w_on; k_headS; (case hw => exact ⟨[.list [.int 10]], by decide +kernel, by decide +kernel⟩)
  k_fillS
  refine L2.walk_specK (r := PySem.Challenge.rw_cupsalong_s01_answers) (k := 8) (CX := L2.CX0) (ps := ["calls"]) (sp := Cup.spAnswers) (by decide +kernel) rfl rfl ⟨rfl, by decide, by decide⟩ (fun w h Y => PySem.W.kIn_of Y) ?F ?S (fun _ _ _ _ z => z)
  case F =>
    intro w mg fa h Y KX G hmg
    refine Cup.final hmg ?T
    case T =>
      refine' Cup.txt_mk KX G ?a_Day ?a_Table ?a_Day_init ?D_Day_init ?i_Day_init ?a_Day_all_stock ?D_Day_all_stock ?i_Day_all_stock ?a_Day_all_wanted_up_to ?D_Day_all_wanted_up_to ?i_Day_all_wanted_up_to ?a_Day_all_brought_up_to ?D_Day_all_brought_up_to ?i_Day_all_brought_up_to ?a_Day_leasts ?D_Day_leasts ?i_Day_leasts ?a_Day_all_lacking_behind ?D_Day_all_lacking_behind ?i_Day_all_lacking_behind ?a_Day_least_together ?D_Day_least_together ?i_Day_least_together ?a_Day_tables_too_short ?D_Day_tables_too_short ?i_Day_tables_too_short ?a_Day_can_be_level ?D_Day_can_be_level ?i_Day_can_be_level ?a_Day_over_gaps ?D_Day_over_gaps ?i_Day_over_gaps ?a_Day_make_level ?D_Day_make_level ?i_Day_make_level ?a_Table_init ?D_Table_init ?i_Table_init ?a_Table_wanted_in ?D_Table_wanted_in ?i_Table_wanted_in ?a_Table_wanted_up_to ?D_Table_wanted_up_to ?i_Table_wanted_up_to ?a_Table_brought_up_to ?D_Table_brought_up_to ?i_Table_brought_up_to ?a_Table_there_behind ?D_Table_there_behind ?i_Table_there_behind ?a_Table_lacking_behind ?D_Table_lacking_behind ?i_Table_lacking_behind ?a_Table_least_needed ?D_Table_least_needed ?i_Table_least_needed ?a_Table_first_too_few ?D_Table_first_too_few ?i_Table_first_too_few ?a_Table_most_wanted ?D_Table_most_wanted ?i_Table_most_wanted ?a_Table_filled_up ?D_Table_filled_up ?i_Table_filled_up ?a_begin ?D_begin ?a_add_table ?D_add_table ?a_add_pass ?D_add_pass ?a_bring ?D_bring ?a_take ?D_take ?a_set_stock ?D_set_stock ?a_wants ?D_wants ?a_there ?D_there ?a_least ?D_least ?a_short ?D_short ?a_enough ?D_enough ?a_apart ?D_apart ?a_together ?D_together ?a_latest ?D_latest ?a_fewest ?D_fewest ?a_steps_over ?D_steps_over ?a_steps ?D_steps ?a_level ?D_level ?a_look ?D_look ?a_sums ?D_sums ?a_answer_at_table ?D_answer_at_table ?a_answer ?D_answer ?a_answers ?D_answers ?pg_Day ?hd_Day ?po_Day ?sa_Day ?mk_Day ?kc_Day ?n_Day_minutes ?n_Day_stock ?n_Day_tables ?pg_Table ?hd_Table ?po_Table ?sa_Table ?mk_Table ?kc_Table ?n_Table_deliveries ?n_Table_passes ?n_Table_stock ?n_Table_takes ?c_MOST_MINUTES ?c_MOST_TABLES ?c_MOST_TAKEN ?c_MOST_CUPS ?c_MOST_PASSES ?c_MOST_RUNNERS ?c_MOST_DELIVERIES ?c_NO_TABLE ?c_NONE_THERE ?c_NOT_AS_TOLD ?c_FULL ?c_CANNOT_BE ?c_NOT_BEGUN ?c_BEGIN ?a_WIDTHS ?l_WIDTHS ?s_WIDTHS ?a_DAY_CALLS ?l_DAY_CALLS ?s_DAY_CALLS ?y_DAY_CALLS ?a_TABLE_CALLS ?l_TABLE_CALLS ?s_TABLE_CALLS ?y_TABLE_CALLS ?z_abs ?z_enumerate ?z_len ?z_max ?z_min ?z_range ?z_sum ?z_zip
      case a_Day => k_is
      case a_Table => k_is
      case a_Day_init => k_is
      case D_Day_init => (refine' Cup.defAt_mk ?l ?c ?k (fun _ _ _ _ _ _ us hl => match us, hl with | [_], _ => rfl); (case l => k_is); (case c => k_is); (case k => k_is))
      case i_Day_init => k_is
      case a_Day_all_stock => k_is
      case D_Day_all_stock => (refine' Cup.defAt_mk ?l ?c ?k (fun _ _ _ _ _ _ us hl => match us, hl with | [_], _ => rfl); (case l => k_is); (case c => k_is); (case k => k_is))
      case i_Day_all_stock => k_is
      case a_Day_all_wanted_up_to => k_is
      case D_Day_all_wanted_up_to => (refine' Cup.defAt_mk ?l ?c ?k (fun _ _ _ _ _ _ us hl => match us, hl with | [_, _], _ => rfl); (case l => k_is); (case c => k_is); (case k => k_is))
      case i_Day_all_wanted_up_to => k_is
      case a_Day_all_brought_up_to => k_is
      case D_Day_all_brought_up_to => (refine' Cup.defAt_mk ?l ?c ?k (fun _ _ _ _ _ _ us hl => match us, hl with | [_, _], _ => rfl); (case l => k_is); (case c => k_is); (case k => k_is))
      case i_Day_all_brought_up_to => k_is
      case a_Day_leasts => k_is
      case D_Day_leasts => (refine' Cup.defAt_mk ?l ?c ?k (fun _ _ _ _ _ _ us hl => match us, hl with | [_], _ => rfl); (case l => k_is); (case c => k_is); (case k => k_is))
      case i_Day_leasts => k_is
      case a_Day_all_lacking_behind => k_is
      case D_Day_all_lacking_behind => (refine' Cup.defAt_mk ?l ?c ?k (fun _ _ _ _ _ _ us hl => match us, hl with | [_, _], _ => rfl); (case l => k_is); (case c => k_is); (case k => k_is))
      case i_Day_all_lacking_behind => k_is
      case a_Day_least_together => k_is
      case D_Day_least_together => (refine' Cup.defAt_mk ?l ?c ?k (fun _ _ _ _ _ _ us hl => match us, hl with | [_], _ => rfl); (case l => k_is); (case c => k_is); (case k => k_is))
      case i_Day_least_together => k_is
      case a_Day_tables_too_short => k_is
      case D_Day_tables_too_short => (refine' Cup.defAt_mk ?l ?c ?k (fun _ _ _ _ _ _ us hl => match us, hl with | [_], _ => rfl); (case l => k_is); (case c => k_is); (case k => k_is))
      case i_Day_tables_too_short => k_is
      case a_Day_can_be_level => k_is
      case D_Day_can_be_level => (refine' Cup.defAt_mk ?l ?c ?k (fun _ _ _ _ _ _ us hl => match us, hl with | [_], _ => rfl); (case l => k_is); (case c => k_is); (case k => k_is))
      case i_Day_can_be_level => k_is
      case a_Day_over_gaps => k_is
      case D_Day_over_gaps => (refine' Cup.defAt_mk ?l ?c ?k (fun _ _ _ _ _ _ us hl => match us, hl with | [_], _ => rfl); (case l => k_is); (case c => k_is); (case k => k_is))
      case i_Day_over_gaps => k_is
      case a_Day_make_level => k_is
      case D_Day_make_level => (refine' Cup.defAt_mk ?l ?c ?k (fun _ _ _ _ _ _ us hl => match us, hl with | [_], _ => rfl); (case l => k_is); (case c => k_is); (case k => k_is))
      case i_Day_make_level => k_is
      case a_Table_init => k_is
      case D_Table_init => (refine' Cup.defAt_mk ?l ?c ?k (fun _ _ _ _ _ _ us hl => match us, hl with | [_, _, _], _ => rfl); (case l => k_is); (case c => k_is); (case k => k_is))
      case i_Table_init => k_is
      case a_Table_wanted_in => k_is
      case D_Table_wanted_in => (refine' Cup.defAt_mk ?l ?c ?k (fun _ _ _ _ _ _ us hl => match us, hl with | [_, _], _ => rfl); (case l => k_is); (case c => k_is); (case k => k_is))
      case i_Table_wanted_in => k_is
      case a_Table_wanted_up_to => k_is
      case D_Table_wanted_up_to => (refine' Cup.defAt_mk ?l ?c ?k (fun _ _ _ _ _ _ us hl => match us, hl with | [_, _], _ => rfl); (case l => k_is); (case c => k_is); (case k => k_is))
      case i_Table_wanted_up_to => k_is
      case a_Table_brought_up_to => k_is
      case D_Table_brought_up_to => (refine' Cup.defAt_mk ?l ?c ?k (fun _ _ _ _ _ _ us hl => match us, hl with | [_, _], _ => rfl); (case l => k_is); (case c => k_is); (case k => k_is))
      case i_Table_brought_up_to => k_is
      case a_Table_there_behind => k_is
      case D_Table_there_behind => (refine' Cup.defAt_mk ?l ?c ?k (fun _ _ _ _ _ _ us hl => match us, hl with | [_, _], _ => rfl); (case l => k_is); (case c => k_is); (case k => k_is))
      case i_Table_there_behind => k_is
      case a_Table_lacking_behind => k_is
      case D_Table_lacking_behind => (refine' Cup.defAt_mk ?l ?c ?k (fun _ _ _ _ _ _ us hl => match us, hl with | [_, _], _ => rfl); (case l => k_is); (case c => k_is); (case k => k_is))
      case i_Table_lacking_behind => k_is
      case a_Table_least_needed => k_is
      case D_Table_least_needed => (refine' Cup.defAt_mk ?l ?c ?k (fun _ _ _ _ _ _ us hl => match us, hl with | [_, _], _ => rfl); (case l => k_is); (case c => k_is); (case k => k_is))
      case i_Table_least_needed => k_is
      case a_Table_first_too_few => k_is
      case D_Table_first_too_few => (refine' Cup.defAt_mk ?l ?c ?k (fun _ _ _ _ _ _ us hl => match us, hl with | [_, _], _ => rfl); (case l => k_is); (case c => k_is); (case k => k_is))
      case i_Table_first_too_few => k_is
      case a_Table_most_wanted => k_is
      case D_Table_most_wanted => (refine' Cup.defAt_mk ?l ?c ?k (fun _ _ _ _ _ _ us hl => match us, hl with | [_, _], _ => rfl); (case l => k_is); (case c => k_is); (case k => k_is))
      case i_Table_most_wanted => k_is
      case a_Table_filled_up => k_is
      case D_Table_filled_up => (refine' Cup.defAt_mk ?l ?c ?k (fun _ _ _ _ _ _ us hl => match us, hl with | [_, _, _], _ => rfl); (case l => k_is); (case c => k_is); (case k => k_is))
      case i_Table_filled_up => k_is
      case a_begin => k_is
      case D_begin => (refine' Cup.defAt_mk ?l ?c ?k (fun _ _ _ _ _ _ us hl => match us, hl with | [_, _], _ => rfl); (case l => k_is); (case c => k_is); (case k => k_is))
      case a_add_table => k_is
      case D_add_table => (refine' Cup.defAt_mk ?l ?c ?k (fun _ _ _ _ _ _ us hl => match us, hl with | [_, _], _ => rfl); (case l => k_is); (case c => k_is); (case k => k_is))
      case a_add_pass => k_is
      case D_add_pass => (refine' Cup.defAt_mk ?l ?c ?k (fun _ _ _ _ _ _ us hl => match us, hl with | [_, _, _], _ => rfl); (case l => k_is); (case c => k_is); (case k => k_is))
      case a_bring => k_is
      case D_bring => (refine' Cup.defAt_mk ?l ?c ?k (fun _ _ _ _ _ _ us hl => match us, hl with | [_, _, _], _ => rfl); (case l => k_is); (case c => k_is); (case k => k_is))
      case a_take => k_is
      case D_take => (refine' Cup.defAt_mk ?l ?c ?k (fun _ _ _ _ _ _ us hl => match us, hl with | [_, _, _], _ => rfl); (case l => k_is); (case c => k_is); (case k => k_is))
      case a_set_stock => k_is
      case D_set_stock => (refine' Cup.defAt_mk ?l ?c ?k (fun _ _ _ _ _ _ us hl => match us, hl with | [_, _, _], _ => rfl); (case l => k_is); (case c => k_is); (case k => k_is))
      case a_wants => k_is
      case D_wants => (refine' Cup.defAt_mk ?l ?c ?k (fun _ _ _ _ _ _ us hl => match us, hl with | [_, _, _], _ => rfl); (case l => k_is); (case c => k_is); (case k => k_is))
      case a_there => k_is
      case D_there => (refine' Cup.defAt_mk ?l ?c ?k (fun _ _ _ _ _ _ us hl => match us, hl with | [_, _, _], _ => rfl); (case l => k_is); (case c => k_is); (case k => k_is))
      case a_least => k_is
      case D_least => (refine' Cup.defAt_mk ?l ?c ?k (fun _ _ _ _ _ _ us hl => match us, hl with | [_, _, _], _ => rfl); (case l => k_is); (case c => k_is); (case k => k_is))
      case a_short => k_is
      case D_short => (refine' Cup.defAt_mk ?l ?c ?k (fun _ _ _ _ _ _ us hl => match us, hl with | [_, _, _], _ => rfl); (case l => k_is); (case c => k_is); (case k => k_is))
      case a_enough => k_is
      case D_enough => (refine' Cup.defAt_mk ?l ?c ?k (fun _ _ _ _ _ _ us hl => match us, hl with | [_, _], _ => rfl); (case l => k_is); (case c => k_is); (case k => k_is))
      case a_apart => k_is
      case D_apart => (refine' Cup.defAt_mk ?l ?c ?k (fun _ _ _ _ _ _ us hl => match us, hl with | [_, _], _ => rfl); (case l => k_is); (case c => k_is); (case k => k_is))
      case a_together => k_is
      case D_together => (refine' Cup.defAt_mk ?l ?c ?k (fun _ _ _ _ _ _ us hl => match us, hl with | [_, _], _ => rfl); (case l => k_is); (case c => k_is); (case k => k_is))
      case a_latest => k_is
      case D_latest => (refine' Cup.defAt_mk ?l ?c ?k (fun _ _ _ _ _ _ us hl => match us, hl with | [_, _, _], _ => rfl); (case l => k_is); (case c => k_is); (case k => k_is))
      case a_fewest => k_is
      case D_fewest => (refine' Cup.defAt_mk ?l ?c ?k (fun _ _ _ _ _ _ us hl => match us, hl with | [_, _, _], _ => rfl); (case l => k_is); (case c => k_is); (case k => k_is))
      case a_steps_over => k_is
      case D_steps_over => (refine' Cup.defAt_mk ?l ?c ?k (fun _ _ _ _ _ _ us hl => match us, hl with | [_], _ => rfl); (case l => k_is); (case c => k_is); (case k => k_is))
      case a_steps => k_is
      case D_steps => (refine' Cup.defAt_mk ?l ?c ?k (fun _ _ _ _ _ _ us hl => match us, hl with | [_, _], _ => rfl); (case l => k_is); (case c => k_is); (case k => k_is))
      case a_level => k_is
      case D_level => (refine' Cup.defAt_mk ?l ?c ?k (fun _ _ _ _ _ _ us hl => match us, hl with | [_, _], _ => rfl); (case l => k_is); (case c => k_is); (case k => k_is))
      case a_look => k_is
      case D_look => (refine' Cup.defAt_mk ?l ?c ?k (fun _ _ _ _ _ _ us hl => match us, hl with | [_, _, _], _ => rfl); (case l => k_is); (case c => k_is); (case k => k_is))
      case a_sums => k_is
      case D_sums => (refine' Cup.defAt_mk ?l ?c ?k (fun _ _ _ _ _ _ us hl => match us, hl with | [_, _], _ => rfl); (case l => k_is); (case c => k_is); (case k => k_is))
      case a_answer_at_table => k_is
      case D_answer_at_table => (refine' Cup.defAt_mk ?l ?c ?k (fun _ _ _ _ _ _ us hl => match us, hl with | [_, _, _], _ => rfl); (case l => k_is); (case c => k_is); (case k => k_is))
      case a_answer => k_is
      case D_answer => (refine' Cup.defAt_mk ?l ?c ?k (fun _ _ _ _ _ _ us hl => match us, hl with | [_, _, _], _ => rfl); (case l => k_is); (case c => k_is); (case k => k_is))
      case a_answers => k_is
      case D_answers => (refine' Cup.defAt_mk ?l ?c ?k (fun _ _ _ _ _ _ us hl => match us, hl with | [_], _ => rfl); (case l => k_is); (case c => k_is); (case k => k_is))
      case pg_Day => k_is
      case hd_Day => k_is
      case po_Day => k_is
      case sa_Day => k_is
      case mk_Day => k_is
      case kc_Day => k_is
      case n_Day_minutes => k_is
      case n_Day_stock => k_is
      case n_Day_tables => k_is
      case pg_Table => k_is
      case hd_Table => k_is
      case po_Table => k_is
      case sa_Table => k_is
      case mk_Table => k_is
      case kc_Table => k_is
      case n_Table_deliveries => k_is
      case n_Table_passes => k_is
      case n_Table_stock => k_is
      case n_Table_takes => k_is
      case c_MOST_MINUTES => k_is
      case c_MOST_TABLES => k_is
      case c_MOST_TAKEN => k_is
      case c_MOST_CUPS => k_is
      case c_MOST_PASSES => k_is
      case c_MOST_RUNNERS => k_is
      case c_MOST_DELIVERIES => k_is
      case c_NO_TABLE => k_is
      case c_NONE_THERE => k_is
      case c_NOT_AS_TOLD => k_is
      case c_FULL => k_is
      case c_CANNOT_BE => k_is
      case c_NOT_BEGUN => k_is
      case c_BEGIN => k_is
      case a_WIDTHS => k_is
      case l_WIDTHS => k_is
      case s_WIDTHS => rfl
      case a_DAY_CALLS => k_is
      case l_DAY_CALLS => k_is
      case s_DAY_CALLS => rfl
      case y_DAY_CALLS => rfl
      case a_TABLE_CALLS => k_is
      case l_TABLE_CALLS => k_is
      case s_TABLE_CALLS => rfl
      case y_TABLE_CALLS => rfl
      case z_abs => k_is
      case z_enumerate => k_is
      case z_len => k_is
      case z_max => k_is
      case z_min => k_is
      case z_range => k_is
      case z_sum => k_is
      case z_zip => k_is
  case S =>
    intro K H xs a hO hwi hask hx
    cases hx with
    | cons h1 h2 =>
      cases h2
      cases h1 with
      | lst hs ha =>
        have e := L2.ints_dw a.1 _ ha
        subst e
        have q : ((Codec.inLen 0 500 a.1 && a.1.all (Codec.inInt 0 4294967295)) && true) = true := hwi
        rw [Bool.and_eq_true, Bool.and_eq_true] at q
        exact ⟨_, a.1, rfl, hs, fun y hy => (Codec.inInt_iff.mp (List.all_eq_true.mp q.1.2 y hy)).1, hask, fun H' p hp => .lst (L2.SqL.of hp) (L2.dw_ints _)⟩
#print axioms PySem.Challenge.cw_cupsalong_s01_answers_holds
end
