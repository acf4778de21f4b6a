import PyProof.Rows.All
import Wide.All
import OpenK.AllK
import Wide.FinOn
import PyProof.EqAt
import PyProof.EqKinds
import PyProof.TupleCall
import KE.BitLaws
import KE.OsGo
import KE.IntBitsLaws
import PyRc32
import PySem.Challenge.RW_threecards_s01_answers
set_option Elab.async false
set_option linter.all false
set_option maxRecDepth 100000
/-! THE HAND LAYER, for ints, bools, texts, own classes, lists, tuples, dicts, comprehensions, walks over dicts, enumerate, zip, reversed, texts, calls, loops. Paste it whole ahead of your own text; what your proof does not reach may be deleted. -/
namespace L2
open PySem PySem.Spec PyProof.Rows

/-- a key: an int or a str -/
abbrev Key := Sum Int Str
def keyIs : Key → Value → Bool
  | .inl k, v => Value.isInt k v
  | .inr x, v => Value.isStrOf x v
def keyH (w : World) : Key → Int
  | .inl k => hashInt k
  | .inr x => hashStr w x
theorem keyIs_shape : ∀ {k : Key} {v : Value}, keyIs k v = true → (∃ i t, k = Sum.inl i ∧ v = Value.int i t) ∨ (∃ x t, k = Sum.inr x ∧ v = Value.str x t)
  | .inl i, v, h => by
    obtain ⟨t, e⟩ := Value.isInt_shape (k := i) (v := v) h
    exact .inl ⟨i, t, rfl, e⟩
  | .inr x, v, h => by
    obtain ⟨t, e⟩ := Value.isStrOf_shape (x := x) (v := v) h
    exact .inr ⟨x, t, rfl, e⟩
theorem keyIs_int (i : Int) (t : Tok) : keyIs (.inl i) (.int i t) = true := by simp [keyIs, Value.isInt]
theorem keyIs_str (x : Str) (t : Tok) : keyIs (.inr x) (.str x t) = true := by simp [keyIs, Value.isStrOf]
theorem key_ll (a b : Int) : decide ((Sum.inl a : Key) = Sum.inl b) = (a == b) := by
  by_cases e : a = b
  · subst e; simp
  · have h : ¬ (Sum.inl a : Key) = Sum.inl b := fun q => e (Sum.inl.inj q)
    rw [decide_eq_false h]
    exact (beq_eq_false_iff_ne.mpr e).symm
theorem key_rr (a b : Str) : decide ((Sum.inr a : Key) = Sum.inr b) = decide (a = b) := by
  by_cases e : a = b
  · subst e; simp
  · have h : ¬ (Sum.inr a : Key) = Sum.inr b := fun q => e (Sum.inr.inj q)
    rw [decide_eq_false h, decide_eq_false e]
theorem key_lr (a : Int) (b : Str) : decide ((Sum.inl a : Key) = Sum.inr b) = false := decide_eq_false (fun q => nomatch q)
theorem key_rl (a : Str) (b : Int) : decide ((Sum.inr a : Key) = Sum.inl b) = false := decide_eq_false (fun q => nomatch q)

def mixKind (prog : Program) (w : World) : PySem.KeyKind prog w Key where
  is := keyIs
  hash := keyH w
  inj := fun v a b ha hb => by
    rcases keyIs_shape ha with ⟨i, t, rfl, rfl⟩ | ⟨x, t, rfl, rfl⟩
    · rcases keyIs_shape hb with ⟨j, u, rfl, e⟩ | ⟨y, u, rfl, e⟩
      · injection e with e1 _; rw [e1]
      · exact nomatch e
    · rcases keyIs_shape hb with ⟨j, u, rfl, e⟩ | ⟨y, u, rfl, e⟩
      · exact nomatch e
      · injection e with e1 _; rw [e1]
  byValue := fun k v h => by
    rcases keyIs_shape h with ⟨i, t, rfl, rfl⟩ | ⟨x, t, rfl, rfl⟩ <;> rfl
  pyHash := fun hv h => by
    rcases keyIs_shape hv with ⟨i, t, rfl, rfl⟩ | ⟨x, t, rfl, rfl⟩
    · exact wpAny_pyHash_int h
    · exact wpAny_pyHash_str h
  eqBool := fun hu hv h => by
    rcases keyIs_shape hu with ⟨i, t, rfl, rfl⟩ | ⟨x, t, rfl, rfl⟩
    · rcases keyIs_shape hv with ⟨j, u, rfl, rfl⟩ | ⟨y, u, rfl, rfl⟩
      · rw [key_ll] at h; exact wpAny_eqBool_int h
      · rw [key_lr] at h; exact SeqAt.EqAt.int_str i t y u _ _ _ _ h
    · rcases keyIs_shape hv with ⟨j, u, rfl, rfl⟩ | ⟨y, u, rfl, rfl⟩
      · rw [key_rl] at h; exact SeqAt.EqAt.str_int x t j u _ _ _ _ h
      · rw [key_rr] at h; exact wpAny_eqBool_str h
  «strs» := fun k x t v h => by
    rcases keyIs_shape h with ⟨i, u, rfl, e⟩ | ⟨y, u, rfl, e⟩
    · exact nomatch e
    · injection e with e1 _
      subst e1
      cases v <;> rfl

theorem mixKind_int (prog : Program) (w : World) (i : Int) (t : Tok) : (mixKind prog w).is (.inl i) (.int i t) = true := keyIs_int i t
theorem mixKind_str (prog : Program) (w : World) (x : Str) (t : Tok) : (mixKind prog w).is (.inr x) (.str x t) = true := keyIs_str x t
end L2

namespace L2
open PySem PySem.Spec PyProof.Rows

/-- a value, without the heap -/
inductive V where
  | non | bl (b : Bool) | int (i : Int) | str (x : Str) | byt (b : Array UInt8) | flt (b : UInt64) | ref (a : Addr) | ty (n : String)
  deriving DecidableEq

def RelV : V → Value → Prop
  | .non, u => u = Value.none
  | .bl b, u => u = Value.bool b
  | .int i, u => ∃ t, u = Value.int i t
  | .str x, u => ∃ t, u = Value.str x t
  | .byt b, u => ∃ t, u = Value.bytes b t
  | .flt b, u => ∃ t, u = Value.float b t
  | .ref a, u => u = Value.ref a
  | .ty n, u => u = Value.type n

abbrev Vals : List V → List Value → Prop := Paired RelV
theorem Vals.length {xs : List V} {us : List Value} (r : Vals xs us) : xs.length = us.length := Paired.length r
theorem Vals.get : ∀ {xs : List V} {us : List Value} {i : Nat} {x : V}, Vals xs us → xs[i]? = some x → ∃ u, us[i]? = some u ∧ RelV x u
  | _, _, _, _, .nil, e => by simp at e
  | _, _, 0, _, .cons r _, e => by simp at e; subst e; exact ⟨_, rfl, r⟩
  | _, _, i + 1, x, .cons _ t, e => by
    obtain ⟨u, h1, h2⟩ := Vals.get (i := i) (x := x) t (by simpa using e)
    exact ⟨u, by simpa using h1, h2⟩
theorem Vals.set {x : V} {u : Value} (r : RelV x u) : ∀ {xs : List V} {us : List Value} (i : Nat), Vals xs us → Vals (xs.set i x) (us.set i u)
  | _, _, _, .nil => .nil
  | _, _, 0, .cons _ t => .cons r t
  | _, _, i + 1, .cons q t => .cons q (Vals.set r i t)
theorem Vals.append : ∀ {xs ys : List V} {us ws : List Value}, Vals xs us → Vals ys ws → Vals (xs ++ ys) (us ++ ws)
  | _, _, _, _, .nil, s => s
  | _, _, _, _, .cons r t, s => .cons r (Vals.append t s)
theorem Vals.take : ∀ {xs : List V} {us : List Value} (n : Nat), Vals xs us → Vals (xs.take n) (us.take n)
  | _, _, 0, _ => .nil
  | _, _, _ + 1, .nil => .nil
  | _, _, n + 1, .cons r t => .cons r (Vals.take n t)
theorem Vals.drop : ∀ {xs : List V} {us : List Value} (n : Nat), Vals xs us → Vals (xs.drop n) (us.drop n)
  | _, _, 0, r => r
  | _, _, _ + 1, .nil => .nil
  | _, _, n + 1, .cons _ t => Vals.drop n t

def RelO : Option V → Option Value → Prop
  | some v, some u => RelV v u
  | none, none => True
  | _, _ => False
def KV {κ : Type} : List (κ × V) → List (κ × Value) → Prop := Paired fun (p : κ × V) (q : κ × Value) => p.1 = q.1 ∧ RelV p.2 q.2

/-- a key of a dict (00_mix): an int or a text -/
def kV : Key → V
  | .inl i => .int i
  | .inr x => .str x

/-- what stands at a tracked address -/
inductive HO where
  /-- a list -/
  | lst (xs : List V)
  /-- a tuple (never changes) -/
  | tup (xs : List V)
  /-- a dict whose keys are ints and texts; one whose keys are tuples of ints and texts (the empty one is both) -/
  | dK (kvs : List (Key × V)) | dT (kvs : List (List Key × V))
  /-- a set of ints: its members, its size -/
  | set (S : Int → Bool) (n : Nat)
  /-- an instance of the class at C, its dict at dx, its attributes -/
  | ins (C dx : Addr) (fs : List (Str × V))
  /-- the dict of the instance at x -/
  | own (x : Addr)
  /-- the dict of an exception -/
  | xd (fs : List (Str × V))
  /-- a bound method, f of x -/
  | met (f x : Addr)
  /-- a range object lo, lo + 1, .. below hi -/
  | rng (lo hi : Int)
  /-- a thing that is known to the object (the script; a dict while a loop walks it): read, never written while it is so -/
  | frz (o : Obj) (u : HO)
  /-- a code object's table -/
  | tbl (ps : Array Value)
  /-- any other thing, by what is true of its one object (a def of one's own: SetO a S n := HO.ext fun h => ..) -/
  | ext (φ : Heap → Prop)

abbrev Hp := Addr → Option HO
def upd (H : Hp) (a : Addr) (o : HO) : Hp := fun b => if b = a then some o else H b
theorem upd_same {H : Hp} {a : Addr} {o : HO} : upd H a o a = some o := by unfold upd; rw [if_pos rfl]
theorem upd_ne {H : Hp} {a b : Addr} {o : HO} (h : b ≠ a) : upd H a o b = H b := by unfold upd; rw [if_neg h]
theorem upd_upd {H : Hp} {a : Addr} {o u : HO} : upd (upd H a o) a u = upd H a u := by
  funext b; unfold upd; split <;> rfl
/-- two objects of different content stand apart -/
theorem ne_of {H : Hp} {a b : Addr} {o u : HO} (h : H a = some o) (h' : H b = some u) (d : o ≠ u) : a ≠ b := by
  intro e; subst e; rw [h] at h'; exact d (Option.some.inj h')
theorem ne_of_none {H : Hp} {a b : Addr} {o : HO} (h : H a = some o) (h' : H b = none) : a ≠ b := by
  intro e; subst e; rw [h] at h'; cases h'

section
variable (P : Program) (w : World)
def ObjOk (H : Hp) (h : Heap) (a : Addr) : HO → Prop
  | .lst xs => xs.length ≤ sizeLine ∧ ∃ (its : List Value) (n : Nat), Vals xs its ∧ h.get? a = some { cls := .type "list", data := .seq its.toArray n }
  | .tup xs => xs.length ≤ sizeLine ∧ ∃ its : List Value, Vals xs its ∧ IsTup h a its.toArray
  | .dK kvs => kvs.length ≤ sizeLine ∧ (a == sysModules) = false ∧ ∃ vs, KV kvs vs ∧ h.DictOf (mixKind P w) a vs
  | .dT kvs => kvs.length ≤ sizeLine ∧ (a == sysModules) = false ∧ ∃ xs : List (List Key × Addr × Value),
      Paired (fun (p : List Key × V) (q : List Key × Addr × Value) => p.1 = q.1 ∧ H q.2.1 = some (.tup (p.1.map kV)) ∧ RelV p.2 q.2.2) kvs xs ∧
      ∃ o es ep, h.get? a = some o ∧ o.ExactDict ∧ o.data = .dict es ep ∧ es.toList = xs.map (entryOfKey (tupleKind (mixKind P w))) ∧ (xs.map (·.1)).Nodup
  | .set S n => h.SetOf (intKind P w) a S n
  | .ins C dx fs => H dx = some (.own a) ∧ fs.length ≤ 1000 ∧ dx ≠ a ∧ h.get? a = some (PySem.W.instObj C dx) ∧
      ∃ mA, h.Ns1 dx mA ∧ (∀ f, RelO (fs.lookup f) (mA f)) ∧ PySem.Within mA (fs.map (·.1))
  | .own _ => ∃ o, h.get? a = some o
  | .xd fs => ∃ mA, h.Ns1 a mA ∧ ∀ f, RelO (fs.lookup f) (mA f)
  | .rng lo hi => ∃ t u v, h.get? a = some { cls := .type "range", data := .fields #[.int lo t, .int hi u, .int 1 v] }
  | .frz o u => h.get? a = some o ∧ ObjOk H h a u
  | .tbl ps => h.get? a = some { cls := .none, data := .fields ps }
  | .met f x => h.get? a = some (PySem.W.methodObj (.ref f) (.ref x))
  | .ext φ => φ h ∧ (∃ o, h.get? a = some o) ∧ ∀ h1 h2 : Heap, φ h1 → (∀ o, h1.get? a = some o → h2.get? a = some o) → φ h2
/-- the abstract heap is held -/
def HOk (H : Hp) (h : Heap) : Prop := ∀ a o, H a = some o → ObjOk P w H h a o
end

section
variable {P : Program} {w : World} {H H' : Hp} {h h' : Heap} {a : Addr} {o : HO}
theorem ObjOk.lt (x : ObjOk P w H h a o) : a < h.objs.size := by
  cases o with
  | lst xs => obtain ⟨_, _, _, _, e⟩ := x; exact Heap.lt_size e
  | tup xs => obtain ⟨_, _, _, p⟩ := x; exact p.lt
  | dK kvs => obtain ⟨_, _, _, _, o, _, _, e, _⟩ := x; exact Heap.lt_size e
  | dT kvs => obtain ⟨_, _, _, _, o, _, _, e, _⟩ := x; exact Heap.lt_size e
  | set S n => obtain ⟨o, _, _, _, e, _⟩ := x; exact Heap.lt_size e
  | ins C dx fs => obtain ⟨_, _, _, e, _⟩ := x; exact Heap.lt_size e
  | own y => obtain ⟨_, e⟩ := x; exact Heap.lt_size e
  | xd fs => obtain ⟨_, ⟨_, _, _, e, _⟩, _⟩ := x; exact Heap.lt_size e
  | rng lo hi => obtain ⟨_, _, _, e⟩ := x; exact Heap.lt_size e
  | frz ob u => obtain ⟨e, _⟩ := x; exact Heap.lt_size e
  | tbl ps => exact Heap.lt_size (show h.get? a = some _ from x)
  | met f y => exact Heap.lt_size (show h.get? a = some _ from x)
  | ext φ => obtain ⟨_, ⟨_, e⟩, _⟩ := x; exact Heap.lt_size e
theorem Paired.mapP {α β : Type} {F G : α → β → Prop} : ∀ {l₁ : List α} {l₂ : List β}, Paired F l₁ l₂ → (∀ a b, F a b → G a b) → Paired G l₁ l₂
  | _, _, .nil, _ => .nil
  | _, _, .cons r t, f => .cons (f _ _ r) (Paired.mapP t f)
/-- what an object's description leans on: its own object, its own dict, the tuples -/
theorem ObjOk.stay (x : ObjOk P w H h a o) (k : ∀ b u, (b = a ∨ H b = some (.own a)) → h.get? b = some u → h'.get? b = some u)
    (ho : ∀ b, H b = some (.own a) → H' b = some (.own a)) (ht : ∀ b xs, H b = some (.tup xs) → H' b = some (.tup xs)) : ObjOk P w H' h' a o := by
  induction o with
  | lst xs => obtain ⟨z, its, n, r, e⟩ := x; exact ⟨z, its, n, r, k _ _ (.inl rfl) e⟩
  | tup xs => obtain ⟨z, its, r, ob, e, c⟩ := x; exact ⟨z, its, r, ob, k _ _ (.inl rfl) e, c⟩
  | dK kvs => obtain ⟨z, y, vs, r, ob, es, ep, e, c⟩ := x; exact ⟨z, y, vs, r, ob, es, ep, k _ _ (.inl rfl) e, c⟩
  | dT kvs =>
    obtain ⟨z, y, xs, r, ob, es, ep, e, c⟩ := x
    exact ⟨z, y, xs, Paired.mapP r fun p q z => ⟨z.1, ht _ _ z.2.1, z.2.2⟩, ob, es, ep, k _ _ (.inl rfl) e, c⟩
  | set S n => obtain ⟨ob, es, ep, t, e, c⟩ := x; exact ⟨ob, es, ep, t, k _ _ (.inl rfl) e, c⟩
  | ins C dx fs =>
    obtain ⟨d, z, ne, e, mA, ⟨od, es, ep, e2, c⟩, r⟩ := x
    exact ⟨ho _ d, z, ne, k _ _ (.inl rfl) e, mA, ⟨od, es, ep, k _ _ (.inr d) e2, c⟩, r⟩
  | own y => obtain ⟨ob, e⟩ := x; exact ⟨ob, k _ _ (.inl rfl) e⟩
  | xd fs => obtain ⟨mA, ⟨od, es, ep, e, c⟩, r⟩ := x; exact ⟨mA, ⟨od, es, ep, k _ _ (.inl rfl) e, c⟩, r⟩
  | rng lo hi => obtain ⟨t, u, v, e⟩ := x; exact ⟨t, u, v, k _ _ (.inl rfl) e⟩
  | frz ob u ih => obtain ⟨e, q⟩ := x; exact ⟨k _ _ (.inl rfl) e, ih q⟩
  | tbl ps =>
    have e : h.get? a = some { cls := .none, data := .fields ps } := x
    show h'.get? a = some { cls := .none, data := .fields ps }
    exact k a _ (.inl rfl) e
  | met f y =>
    have e : h.get? a = some (PySem.W.methodObj (.ref f) (.ref y)) := x
    show h'.get? a = some (PySem.W.methodObj (.ref f) (.ref y))
    exact k a _ (.inl rfl) e
  | ext φ => obtain ⟨p, ⟨o, e⟩, st⟩ := x; exact ⟨st _ _ p fun o q => k _ _ (.inl rfl) q, ⟨o, k _ _ (.inl rfl) e⟩, st⟩
theorem HOk.lt (x : HOk P w H h) (e : H a = some o) : a < h.objs.size := (x a o e).lt
theorem HOk.fresh (x : HOk P w H h) (e : h.objs.size ≤ a) : H a = none := by
  cases q : H a with
  | none => rfl
  | some u => exact absurd (Nat.lt_of_lt_of_le (x.lt q) e) (Nat.lt_irrefl _)
/-- every object of the heap is kept -/
theorem HOk.kept (x : HOk P w H h) (k : ∀ b u, h.get? b = some u → h'.get? b = some u) : HOk P w H h' := fun a o e =>
  (x a o e).stay (fun b u _ q => k b u q) (fun _ q => q) fun _ _ q => q
/-- a new object is laid and tracked -/
theorem HOk.laid (x : HOk P w H h) (k : ∀ b u, h.get? b = some u → h'.get? b = some u) (hp : h.objs.size ≤ a) (new : ObjOk P w (upd H a o) h' a o) : HOk P w (upd H a o) h' := fun b u e => by
  have hn := x.fresh hp
  by_cases hb : b = a
  · subst hb; rw [upd_same] at e; cases e; exact new
  · rw [upd_ne hb] at e
    exact (x b u e).stay (fun c v _ q => k c v q) (fun c q => by rw [upd_ne (ne_of_none q hn)]; exact q) fun c xs q => by rw [upd_ne (ne_of_none q hn)]; exact q
end

/-- what may be read as u: it is u, or a known u -/
def Rd (H : Hp) (a : Addr) (u : HO) : Prop := H a = some u ∨ ∃ o, H a = some (.frz o u)
theorem Rd.ok {P : Program} {w : World} {H : Hp} {h : Heap} {a : Addr} {u : HO} (r : Rd H a u) (x : HOk P w H h) : ObjOk P w H h a u := by
  rcases r with r | ⟨o, r⟩
  · exact x a u r
  · obtain ⟨_, q⟩ := x a _ r
    exact q
/-- what may be written -/
def Mut : Option HO → Prop
  | some (.lst _) => True
  | some (.dK _) => True
  | some (.dT _) => True
  | some (.set _ _) => True
  | some (.ins _ _ _) => True
  | some (.ext _) => True
  | _ => False
section
variable {P : Program} {w : World} {H : Hp} {h h' : Heap} {x e : Addr} {o' : HO}
/-- the object at e is changed: x itself, or the dict of the instance x -/
theorem HOk.write (ok : HOk P w H h) (mu : Mut (H x)) (he : e = x ∨ H e = some (.own x)) (k : ∀ b u, b ≠ e → h.get? b = some u → h'.get? b = some u) (heo : ∃ u, h'.get? e = some u)
    (new : ObjOk P w (upd H x o') h' x o') : HOk P w (upd H x o') h' := fun b u q => by
  have nown : ∀ c y, H c = some (.own y) → c ≠ x := fun c y r z => by subst z; rw [r] at mu; exact mu
  have ntup : ∀ c xs, H c = some (.tup xs) → c ≠ x := fun c xs r z => by subst z; rw [r] at mu; exact mu
  by_cases hb : b = x
  · subst hb; rw [upd_same] at q; cases q; exact new
  · rw [upd_ne hb] at q
    by_cases hbe : b = e
    · have q' : H b = some (.own x) := by
        rcases he with z | z
        · exact absurd (hbe.trans z) hb
        · rw [hbe]; exact z
      rw [q] at q'; cases q'
      obtain ⟨v, hv⟩ := heo
      exact ⟨v, by rw [hbe]; exact hv⟩
    · refine (ok b u q).stay (fun c v hc r => k c v ?_ r) (fun c r => by rw [upd_ne (nown c b r)]; exact r) fun c xs r => by rw [upd_ne (ntup c xs r)]; exact r
      rcases hc with rfl | hc
      · exact hbe
      · rintro rfl
        rcases he with z | z
        · exact nown c b hc z
        · rw [hc] at z; cases z; exact hb rfl
end

/-! ### kept unless tracked; of the frames at fs (the callers') the slots may change (an exception that passes writes there); of the records at ex (iterators) nothing is said -/
structure Un (fs ex : List Addr) (H H' : Hp) (h h' : Heap) : Prop where
  keep : ∀ b o, h.get? b = some o → H b = none → b ∉ fs → b ∉ ex → h'.get? b = some o
  slot : ∀ b o, h.get? b = some o → H b = none → b ∈ fs → b ∉ ex → ∃ sl, h'.get? b = some { o with slots := sl }
  free : ∀ b o, h.get? b = some o → H b = none → b ∉ ex → H' b = none
  there : ∀ b o, h.get? b = some o → b ∉ ex → ∃ o', h'.get? b = some o'
  tups : ∀ b xs, H b = some (.tup xs) → H' b = some (.tup xs)
  frzs : ∀ b o u, H b = some (.frz o u) → H' b = some (.frz o u)
  tbls : ∀ b ps, H b = some (.tbl ps) → ∃ more, H' b = some (.tbl (ps ++ more))
section
variable {fs fs' ex ex' : List Addr} {H H1 H2 : Hp} {h h1 h2 h' : Heap} {a x e : Addr} {o : HO}
theorem Un.any (u : Un fs ex H H1 h h1) {b : Addr} {ob : Obj} (q : h.get? b = some ob) (n : H b = none) (hx : b ∉ ex) : ∃ sl, h1.get? b = some { ob with slots := sl } := by
  by_cases hb : b ∈ fs
  · exact u.slot b ob q n hb hx
  · exact ⟨ob.slots, u.keep b ob q n hb hx⟩
theorem Un.kept (k : ∀ b u, h.get? b = some u → h'.get? b = some u) : Un fs ex H H h h' :=
  ⟨fun b ob q _ _ _ => k b ob q, fun b ob q _ _ _ => ⟨ob.slots, k b ob q⟩, fun _ _ _ n _ => n, fun b ob q _ => ⟨ob, k b ob q⟩, fun _ _ q => q, fun _ _ _ q => q, fun _ ps q => ⟨#[], by rw [q]; simp⟩⟩
theorem Un.refl : Un fs ex H H h h := Un.kept fun _ _ q => q
theorem Un.laid (k : ∀ b u, h.get? b = some u → h'.get? b = some u) (hp : h.objs.size ≤ a) (hn : H a = none) : Un fs ex H (upd H a o) h h' where
  keep := fun b u q _ _ _ => k b u q
  slot := fun b u q _ _ _ => ⟨u.slots, k b u q⟩
  free := fun b u q n _ => by rw [upd_ne (Nat.ne_of_lt (Nat.lt_of_lt_of_le (Heap.lt_size q) hp))]; exact n
  there := fun b u q _ => ⟨u, k b u q⟩
  tups := fun b xs q => by rw [upd_ne (ne_of_none q hn)]; exact q
  frzs := fun b u xs q => by rw [upd_ne (ne_of_none q hn)]; exact q
  tbls := fun b ps q => ⟨#[], by rw [upd_ne (ne_of_none q hn), q]; simp⟩
theorem Un.write (mu : Mut (H x)) (he : e = x ∨ H e = some (.own x)) (k : ∀ b u, b ≠ e → h.get? b = some u → h'.get? b = some u) (heo : ∃ u, h'.get? e = some u) : Un fs ex H (upd H x o) h h' := by
  have hx : ∀ b, H b = none → b ≠ x := fun b n z => by subst z; rw [n] at mu; exact mu
  have hb : ∀ b, H b = none → b ≠ e := fun b n z => by
    subst z
    rcases he with r | r
    · exact hx b n r
    · rw [n] at r; cases r
  have hm : ∀ b u, H b = some u → ¬ Mut (some u) → b ≠ x := fun b u q nm z => by subst z; rw [q] at mu; exact nm mu
  refine ⟨fun b u q n _ _ => k b u (hb b n) q, fun b u q n _ _ => ⟨u.slots, k b u (hb b n) q⟩, fun b u q n _ => by rw [upd_ne (hx b n)]; exact n, fun b u q _ => ?_,
    fun b xs q => by rw [upd_ne (hm b _ q fun z => z)]; exact q, fun b u xs q => by rw [upd_ne (hm b _ q fun z => z)]; exact q, fun b ps q => ⟨#[], by rw [upd_ne (hm b _ q fun z => z), q]; simp⟩⟩
  by_cases hbe : b = e
  · subst hbe; exact heo
  · exact ⟨u, k b u hbe q⟩
end

/-! ### the heap without what is tracked -/
def trk (h : Heap) (H : Hp) : List Addr := (List.range h.objs.size).filter fun a => (H a).isSome
def hidT (h : Heap) (H : Hp) : Heap := PySem.W.hideAll h (trk h H)
theorem hidT_size (h : Heap) (H : Hp) : (hidT h H).objs.size = h.objs.size := PySem.W.hideAll_size _ _
theorem hidT_get {h : Heap} {H : Hp} {b : Addr} {o : Obj} (e : h.get? b = some o) (n : H b = none) : (hidT h H).get? b = some o :=
  PySem.W.hideAll_get _ e fun hm => by
    have q : (H b).isSome = true := (List.mem_filter.mp hm).2
    rw [n] at q; simp at q
theorem of_hidT {h : Heap} {H : Hp} {b : Addr} {o : Obj} (e : (hidT h H).get? b = some o) : h.get? b = some o ∧ H b = none := by
  have e' : h.get? b = some o := PySem.W.of_hideAll (trk h H) e
  refine ⟨e', ?_⟩
  cases q : H b with
  | none => rfl
  | some x =>
    have hm : b ∈ trk h H := List.mem_filter.mpr ⟨List.mem_range.mpr (Heap.lt_size e'), by simp [q]⟩
    have z : (hidT h H).get? b = none := PySem.W.hideAll_none (trk h H) hm
    rw [z] at e; cases e

/-! ### OpenK's ledger, filled with every new object but one -/
end L2

namespace L2
open PySem PySem.Spec PyProof.Rows

/-- the module's facts, over the base: the heap at the law's entry without what is tracked there -/
structure Mod (K : PySem.W.Frag) (mg : Str → Option Value) (base : Heap) : Prop where
  kin : K.In base
  glob : base.Ns mainGlobals mg
  blt : ∃ mb, base.Ns builtinsNs mb ∧ ∀ x : Str, x ≠ "__name__" → mb x = bootBuiltins x
  nolimit : base.NoLimit

/-- the context: a def's body (or a comprehension's block) running. base: fixed through the whole law; s₀, H₀: the entry; outer: the frames whose slots others may change (a def's callers); stack: all frames that run;
   ex: iterators that were made ahead of the entry and are walked here (a comprehension's); fn: the names whose cells were made at the entry (a def: all; a comprehension's block: its own); calm: not within an except suite; pn: pins that every state bears; xe: what is wanted of an exception that leaves the code -/
structure Cx where
  prog : Program
  w : World
  K : PySem.W.Frag
  mg : Str → Option Value
  base : Heap
  A : Around
  N : List Str
  s₀ : Shared
  H₀ : Hp
  env : Env
  outer : List Env
  stack : List Env
  ex : List Addr
  fn : Str → Bool
  calm : Bool
  pn : List (Addr × Obj)
  xe : Value → Shared → Prop
/-- the callers' frames -/
def frs (l : List Env) : List Addr := l.filterMap (·.frame)
abbrev Cx.fs (X : Cx) : List Addr := frs X.outer

def Vis (sc : Scope) (x : Str) : Prop := sc.names.lookup x = some .local ∨ sc.names.lookup x = some .cell ∨ sc.names.lookup x = some .free
def Loc (sc : Scope) (x : Str) : Prop := sc.names.lookup x = some .local ∨ sc.names.lookup x = some .cell
def Look (env : Env) (h : Heap) (m : Str → Option Value) (x : Str) (u : Value) : Prop :=
  (env.kindOf x = some .local ∧ m x = some u) ∨ ((env.kindOf x = some .cell ∨ env.kindOf x = some .free) ∧ ∃ c, env.cells.lookup x = some c ∧ h.IsCell c (some u))

structure Cx.Ok (X : Cx) : Prop where
  mod : Mod X.K X.mg X.base
  kind : X.env.scope.kind = .function
  glob : X.env.globals = mainGlobals
  blt : X.env.builtins = builtinsNs
  above : X.s₀.heap.objs.size ≤ X.env.locals
  inj : ∀ x y c, X.env.cells.lookup x = some c → X.env.cells.lookup y = some c → x = y
  has : ∀ x, (X.env.kindOf x = some .cell ∨ X.env.kindOf x = some .free) → ∃ c, X.env.cells.lookup x = some c
  cab : ∀ x c, X.fn x = true → X.env.cells.lookup x = some c → X.s₀.heap.objs.size ≤ c
  hd : X.calm = true → X.A.handled = none
  frames : X.A.frames = some X.stack
  stk : X.stack = X.outer ∨ (X.stack = X.env :: X.outer ∧ X.env.frame = some X.env.locals)
  exf : ∀ b ∈ X.ex, b ≠ X.env.locals ∧ ∀ x c, X.env.cells.lookup x = some c → c ≠ b
  bs : ∀ b o, X.base.get? b = some o → X.s₀.heap.get? b = some o ∧ X.H₀ b = none
  bsz : X.base.objs.size ≤ X.s₀.heap.objs.size
  noex : ∀ b o, X.base.get? b = some o → b ∉ X.ex
  exfs : ∀ b ∈ X.ex, b ∉ X.fs
  funs : X.s₀.heap.FunFrames X.base X.outer
  frf : ∀ b ∈ X.fs, X.H₀ b = none

structure Inv (X : Cx) (pins : List (Addr × Obj)) (σ : List (Option V)) (H : Hp) (s : Shared) : Prop where
  ok : X.Ok
  os : s.os = X.s₀.os
  bare : AllBare s.gens
  base : Un X.fs X.ex X.H₀ H X.s₀.heap s.heap
  loc : ∃ m, s.heap.Ns X.env.locals m ∧ ∀ (i : Nat) (x : Str) (v : V), X.N[i]? = some x → σ[i]? = some (some v) → Vis X.env.scope x → ∃ u, RelV v u ∧ Look X.env s.heap m x u
  cell : ∀ x c, X.env.cells.lookup x = some c → ∃ v, s.heap.IsCell c v
  free : H X.env.locals = none
  freeC : ∀ x c, X.env.cells.lookup x = some c → H c = none
  pin : ∀ p ∈ X.pn ++ pins, s.heap.get? p.1 = some p.2 ∧ H p.1 = none ∧ p.1 ≠ X.env.locals ∧ p.1 ∉ X.fs ∧ ∀ v, p.2.data ≠ .cell v
  hok : HOk X.prog X.w H s.heap
  len : σ.length = X.N.length

section
variable {X : Cx} {pins : List (Addr × Obj)} {σ : List (Option V)} {H H' : Hp} {s : Shared} {h' : Heap}

theorem Cx.Ok.nofr (ok : X.Ok) {b : Addr} {o : Obj} (e : X.base.get? b = some o) : b ∉ X.fs := fun hb => by
  have := (ok.funs.mem hb).1
  rw [e] at this; cases this
theorem Inv.bs (I : Inv X pins σ H s) : ∀ b o, X.base.get? b = some o → s.heap.get? b = some o ∧ H b = none := fun b o e =>
  ⟨I.base.keep b o (I.ok.bs b o e).1 (I.ok.bs b o e).2 (I.ok.nofr e) (I.ok.noex b o e), I.base.free b o (I.ok.bs b o e).1 (I.ok.bs b o e).2 (I.ok.noex b o e)⟩
theorem Inv.bk (I : Inv X pins σ H s) : ∀ b o, X.base.get? b = some o → s.heap.get? b = some o := fun b o e => (I.bs b o e).1
theorem Inv.mod (I : Inv X pins σ H s) : Mod X.K X.mg X.base := I.ok.mod
theorem Inv.kIn (I : Inv X pins σ H s) : X.K.In s.heap := I.ok.mod.kin.keeps I.bk
theorem Inv.lt (I : Inv X pins σ H s) : X.env.locals < s.heap.objs.size := let ⟨_, hn, _⟩ := I.loc; hn.lt
theorem Inv.sz (I : Inv X pins σ H s) : X.s₀.heap.objs.size ≤ s.heap.objs.size := Nat.le_trans I.ok.above (Nat.le_of_lt I.lt)
theorem Inv.nofs (I : Inv X pins σ H s) {a : Addr} (h : s.heap.objs.size ≤ a) : a ∉ X.fs := fun hb => by
  obtain ⟨_, o, ho, _⟩ := I.ok.funs.mem hb
  exact absurd (Nat.lt_of_lt_of_le (Heap.lt_size ho) (Nat.le_trans I.sz h)) (Nat.lt_irrefl _)
theorem Inv.cne (I : Inv X pins σ H s) : ∀ x c, X.env.cells.lookup x = some c → c ≠ X.env.locals := fun x c e z => by
  obtain ⟨v, o, ho, hd⟩ := I.cell x c e
  obtain ⟨m, ⟨o', es, ep, ho', hd', _⟩, _⟩ := I.loc
  rw [z, ho'] at ho; cases ho; rw [hd'] at hd; cases hd
theorem Inv.funs (I : Inv X pins σ H s) : s.heap.FunFrames X.base X.outer := by
  have all : ∀ (l : List Env), (∀ b ∈ frs l, b ∈ X.fs) → X.s₀.heap.FunFrames X.base l → s.heap.FunFrames X.base l := by
    intro l
    induction l with
    | nil => intro _ _; trivial
    | cons env r ih =>
      intro hs hl
      obtain ⟨hk, ⟨L, o, hf, hn, ho, hd⟩, hr⟩ := hl
      have hL : L ∈ X.fs := hs L (by unfold frs; rw [List.filterMap_cons, hf]; exact List.mem_cons_self)
      obtain ⟨sl, e⟩ := I.base.slot L o ho (I.ok.frf L hL) hL fun z => I.ok.exfs L z hL
      exact ⟨hk, ⟨L, _, hf, hn, e, hd⟩, ih (fun b hb => hs b (by unfold frs; rw [List.filterMap_cons, hf]; exact List.mem_cons_of_mem _ hb)) hr⟩
  exact all X.outer (fun _ hb => hb) I.ok.funs

/-- the frames that run, for a call -/
theorem Inv.stack (I : Inv X pins σ H s) : s.heap.FunFrames X.base X.stack := by
  rcases I.ok.stk with e | ⟨e, hf⟩
  · rw [e]; exact I.funs
  · rw [e]
    obtain ⟨m, hn, _⟩ := I.loc
    refine .cons (by rw [I.ok.kind]; decide) hf hn ?_ I.funs
    exact Heap.get?_none_of_le (Nat.le_trans I.ok.bsz I.ok.above)
theorem Inv.stkSub (I : Inv X pins σ H s) : ∀ b ∈ frs X.stack, b ∈ X.env.locals :: X.fs := fun b hb => by
  rcases I.ok.stk with e | ⟨e, hf⟩
  · rw [e] at hb; exact List.mem_cons_of_mem _ hb
  · rw [e] at hb
    unfold frs at hb
    rw [List.filterMap_cons, hf] at hb
    exact hb
theorem Inv.stkFree (I : Inv X pins σ H s) : ∀ b ∈ frs X.stack, H b = none := fun b hb => by
  rcases List.mem_cons.mp (I.stkSub b hb) with e | hb
  · rw [e]; exact I.free
  · obtain ⟨_, o, ho, _⟩ := I.ok.funs.mem hb
    exact I.base.free b o ho (I.ok.frf b hb) fun z => I.ok.exfs b z hb

/-- THE STEP: the untracked objects but the frame and the records at ch are kept (the callers' frames up to slots), the frame's map is kept, the new abstract heap is held -/
theorem Inv.step {g' : Array GenState} {t' : Nat} {d' : Drawn} {ch : List Addr} (I : Inv X pins σ H s)
    (hch : ∀ b ∈ ch, (b ∈ X.ex ∨ X.s₀.heap.objs.size ≤ b) ∧ b ≠ X.env.locals ∧ (∀ x c, X.env.cells.lookup x = some c → c ≠ b) ∧ ∀ p ∈ X.pn ++ pins, p.1 ≠ b)
    (keep : ∀ b o, b ≠ X.env.locals → b ∉ X.fs → b ∉ ch → s.heap.get? b = some o → H b = none → h'.get? b = some o)
    (slot : ∀ b o, b ≠ X.env.locals → b ∈ X.fs → b ∉ ch → s.heap.get? b = some o → H b = none → ∃ sl, h'.get? b = some { o with slots := sl }) (free : ∀ b o, b ∉ ch → s.heap.get? b = some o → H b = none → H' b = none)
    (there : ∀ b o, b ∉ ch → s.heap.get? b = some o → ∃ o', h'.get? b = some o')
    (tups : ∀ b xs, H b = some (.tup xs) → H' b = some (.tup xs)) (frzs : ∀ b o u, H b = some (.frz o u) → H' b = some (.frz o u)) (tbls : ∀ b ps, H b = some (.tbl ps) → ∃ more, H' b = some (.tbl (ps ++ more)))
    (ns : ∀ m, s.heap.Ns X.env.locals m → h'.Ns X.env.locals m) (hok : HOk X.prog X.w H' h') (hg : AllBare g') :
    Inv X pins σ H' { s with heap := h', gens := g', drawn := d', toks := t' } := by
  have neL : ∀ b o, X.s₀.heap.get? b = some o → b ≠ X.env.locals := fun b o e => Nat.ne_of_lt (Nat.lt_of_lt_of_le (Heap.lt_size e) I.ok.above)
  have neC : ∀ b o, X.s₀.heap.get? b = some o → b ∉ X.ex → b ∉ ch := fun b o e hx hb => by
    rcases (hch b hb).1 with z | z
    · exact hx z
    · exact absurd (Nat.lt_of_lt_of_le (Heap.lt_size e) z) (Nat.lt_irrefl _)
  have cellK : ∀ x c, X.env.cells.lookup x = some c → ∀ v, s.heap.IsCell c v → h'.IsCell c v := fun x c e v ⟨o, ho, hd⟩ => by
    have nch : c ∉ ch := fun z => (hch c z).2.2.1 x c e rfl
    by_cases hc : c ∈ X.fs
    · obtain ⟨sl, q⟩ := slot c o (I.cne x c e) hc nch ho (I.freeC x c e)
      exact ⟨_, q, hd⟩
    · exact ⟨o, keep c o (I.cne x c e) hc nch ho (I.freeC x c e), hd⟩
  refine ⟨I.ok, I.os, hg, ⟨fun b o e n hb hx => ?_, fun b o e n hb hx => ?_, fun b o e n hx => ?_, fun b o e hx => ?_, fun b xs e => tups b xs (I.base.tups b xs e), fun b o xs e => frzs b o xs (I.base.frzs b o xs e), fun b ps e => ?_⟩, ?_, fun x c e => ?_, ?_, fun x c e => ?_, fun p hp => ?_, hok, I.len⟩
  · exact keep b o (neL b o e) hb (neC b o e hx) (I.base.keep b o e n hb hx) (I.base.free b o e n hx)
  · obtain ⟨sl, e1⟩ := I.base.slot b o e n hb hx
    obtain ⟨sl', e2⟩ := slot b _ (neL b o e) hb (neC b o e hx) e1 (I.base.free b o e n hx)
    exact ⟨sl', e2⟩
  · obtain ⟨o', e1⟩ := I.base.there b o e hx
    exact free b o' (neC b o e hx) e1 (I.base.free b o e n hx)
  · obtain ⟨o', e1⟩ := I.base.there b o e hx
    exact there b o' (neC b o e hx) e1
  · obtain ⟨m1, e1⟩ := I.base.tbls b ps e
    obtain ⟨m2, e2⟩ := tbls b _ e1
    exact ⟨m1 ++ m2, by rw [e2, Array.append_assoc]⟩
  · obtain ⟨m, hn, hl⟩ := I.loc
    refine ⟨m, ns m hn, fun i x v e1 e2 e3 => ?_⟩
    obtain ⟨u, r, l⟩ := hl i x v e1 e2 e3
    refine ⟨u, r, ?_⟩
    rcases l with l | ⟨k, c, e, z⟩
    · exact .inl l
    · exact .inr ⟨k, c, e, cellK x c e _ z⟩
  · obtain ⟨v, z⟩ := I.cell x c e
    exact ⟨v, cellK x c e v z⟩
  · obtain ⟨m, ⟨o, _, _, ho, _⟩, _⟩ := I.loc
    exact free _ o (fun z => (hch _ z).2.1 rfl) ho I.free
  · obtain ⟨v, o, ho, hd⟩ := I.cell x c e
    exact free c o (fun z => (hch c z).2.2.1 x c e rfl) ho (I.freeC x c e)
  · obtain ⟨e, n, ne, nf, d⟩ := I.pin p hp
    have nch : p.1 ∉ ch := fun z => (hch p.1 z).2.2.2 p hp rfl
    exact ⟨keep p.1 p.2 ne nf nch e n, free p.1 p.2 nch e n, ne, nf, d⟩
/-- .. where the frame's own object is kept too -/
theorem Inv.un {t' : Nat} (I : Inv X pins σ H s) (u : Un X.fs [] H H' s.heap h') (hok : HOk X.prog X.w H' h') : Inv X pins σ H' { s with heap := h', toks := t' } := by
  obtain ⟨m, ⟨o, es, ep, ho, r⟩, _⟩ := id I.loc
  obtain ⟨sl, hL⟩ := u.any ho I.free (by simp)
  exact I.step (g' := s.gens) (d' := s.drawn) (ch := []) (fun _ z => nomatch z) (fun b o _ hb _ e n => u.keep b o e n hb (by simp)) (fun b o _ hb _ e n => u.slot b o e n hb (by simp)) (fun b o _ e n => u.free b o e n (by simp)) (fun b o _ e => u.there b o e (by simp)) u.tups u.frzs u.tbls (fun m' hm => by
    obtain ⟨o', es', ep', ho', r'⟩ := hm
    rw [ho] at ho'; cases ho'
    exact ⟨_, es', ep', hL, r'⟩) hok I.bare
/-- behind a call (or a comprehension's block): the slots of this frame may have changed too, the records at ch may have turned -/
theorem Inv.call {g' : Array GenState} {t' : Nat} {d' : Drawn} {ch : List Addr} (I : Inv X pins σ H s) (u : Un (frs X.stack) ch H H' s.heap h') (hok : HOk X.prog X.w H' h') (hg : AllBare g')
    (hch : ∀ b ∈ ch, (b ∈ X.ex ∨ X.s₀.heap.objs.size ≤ b) ∧ b ≠ X.env.locals ∧ (∀ x c, X.env.cells.lookup x = some c → c ≠ b) ∧ ∀ p ∈ X.pn ++ pins, p.1 ≠ b) :
    Inv X pins σ H' { s with heap := h', gens := g', drawn := d', toks := t' } := by
  obtain ⟨m, ⟨o, es, ep, ho, r⟩, _⟩ := id I.loc
  obtain ⟨sl, hL⟩ := u.any ho I.free fun z => (hch _ z).2.1 rfl
  exact I.step (ch := ch) hch (fun b o hL hb hc e n => u.keep b o e n (fun z => (List.mem_cons.mp (I.stkSub b z)).elim hL hb) hc) (fun b o _ _ hc e n => u.any e n hc) (fun b o hc e n => u.free b o e n hc) (fun b o hc e => u.there b o e hc) u.tups u.frzs u.tbls (fun m' hm => by
    obtain ⟨o', es', ep', ho', r'⟩ := hm
    rw [ho] at ho'; cases ho'
    exact ⟨_, es', ep', hL, r'⟩) hok hg
/-- an untracked record of ours (an iterator) has turned -/
theorem Inv.turned {t' : Nat} {it : Addr} (I : Inv X pins σ H s) (k : ∀ b o, b ≠ it → s.heap.get? b = some o → h'.get? b = some o) (hn : H it = none) (hL : it ≠ X.env.locals)
    (h1 : it ∈ X.ex ∨ X.s₀.heap.objs.size ≤ it) (h2 : ∀ x c, X.env.cells.lookup x = some c → c ≠ it) (h3 : ∀ p ∈ X.pn ++ pins, p.1 ≠ it) : Inv X pins σ H { s with heap := h', toks := t' } := by
  have nit : ∀ b u, H b = some u → b ≠ it := fun b u e z => by rw [z, hn] at e; cases e
  refine I.step (g' := s.gens) (d' := s.drawn) (ch := [it]) (fun b hb => ?_) (fun b o _ _ hc e _ => k b o (fun z => hc (by simp [z])) e) (fun b o _ _ hc e _ => ⟨o.slots, k b o (fun z => hc (by simp [z])) e⟩) (fun _ _ _ _ n => n)
    (fun b o hc e => ⟨o, k b o (fun z => hc (by simp [z])) e⟩) (fun _ _ e => e) (fun _ _ _ e => e) (fun b ps e => ⟨#[], by rw [e]; simp⟩) (fun m hm => ?_) (fun b u e => ?_) I.bare
  · have e : b = it := by simpa using hb
    subst e
    exact ⟨h1, hL, h2, h3⟩
  · obtain ⟨o, es, ep, ho, r⟩ := hm
    exact ⟨o, es, ep, k _ o (Ne.symm hL) ho, r⟩
  · refine (I.hok b u e).stay (fun c v hc q => k c v ?_ q) (fun _ q => q) fun _ _ q => q
    rcases hc with z | z
    · rw [z]; exact nit b u e
    · exact nit c _ z
theorem Inv.tok (I : Inv X pins σ H s) (t : Nat) : Inv X pins σ H { s with toks := t } := I.un (h' := s.heap) (t' := t) Un.refl I.hok
/-- all objects kept -/
theorem Inv.kept {t' : Nat} (I : Inv X pins σ H s) (k : ∀ b u, s.heap.get? b = some u → h'.get? b = some u) : Inv X pins σ H { s with heap := h', toks := t' } := I.un (Un.kept k) (I.hok.kept k)
/-- a new object laid and tracked -/
theorem Inv.laid {a : Addr} {o : HO} {t' : Nat} (I : Inv X pins σ H s) (k : ∀ b u, s.heap.get? b = some u → h'.get? b = some u) (hp : s.heap.objs.size ≤ a) (new : ObjOk X.prog X.w (upd H a o) h' a o) :
    Inv X pins σ (upd H a o) { s with heap := h', toks := t' } := I.un (Un.laid k hp (I.hok.fresh hp)) (I.hok.laid k hp new)
/-- an object written -/
theorem Inv.write {x e : Addr} {o : HO} {t' : Nat} (I : Inv X pins σ H s) (mu : Mut (H x)) (he : e = x ∨ H e = some (.own x)) (k : ∀ b u, b ≠ e → s.heap.get? b = some u → h'.get? b = some u) (heo : ∃ u, h'.get? e = some u)
    (new : ObjOk X.prog X.w (upd H x o) h' x o) : Inv X pins σ (upd H x o) { s with heap := h', toks := t' } := I.un (Un.write mu he k heo) (I.hok.write mu he k heo new)
/-- forgetting slots, pins -/
theorem Inv.weak {σ' : List (Option V)} (I : Inv X pins σ H s) (hl : σ'.length = σ.length) (w : ∀ (i : Nat) v, σ'[i]? = some (some v) → σ[i]? = some (some v)) : Inv X pins σ' H s :=
  ⟨I.ok, I.os, I.bare, I.base, let ⟨m, hn, hl'⟩ := I.loc; ⟨m, hn, fun i x v e1 e2 e3 => hl' i x v e1 (w i v e2) e3⟩, I.cell, I.free, I.freeC, I.pin, I.hok, hl.trans I.len⟩
theorem Inv.pins_of {pins' : List (Addr × Obj)} (I : Inv X pins σ H s) (h : ∀ p ∈ pins', s.heap.get? p.1 = some p.2 ∧ H p.1 = none ∧ p.1 ≠ X.env.locals ∧ p.1 ∉ X.fs ∧ ∀ v, p.2.data ≠ .cell v) : Inv X pins' σ H s :=
  ⟨I.ok, I.os, I.bare, I.base, I.loc, I.cell, I.free, I.freeC, fun p hp => (List.mem_append.mp hp).elim (fun z => I.pin p (List.mem_append_left _ z)) (h p), I.hok, I.len⟩

theorem nodup_ix {N : List Str} (hN : N.Nodup) {i j : Nat} {x : Str} (a : N[i]? = some x) (b : N[j]? = some x) : i = j := by
  obtain ⟨h1, e1⟩ := List.getElem?_eq_some_iff.mp a
  obtain ⟨h2, e2⟩ := List.getElem?_eq_some_iff.mp b
  exact (List.getElem_inj hN).mp (e1.trans e2.symm)

/-- a name is stored; what changed -/
theorem store_ok2 {M : Model} {A : Around} {E : Value → Shared → Prop} {i : Nat} {x : Str} {v : V} {u : Value} {Q : Unit → Shared → Prop} (I : Inv X pins σ H s) (hN : X.N.Nodup) (hi : X.N[i]? = some x) (hx : Loc X.env.scope x) (r : RelV v u)
    (h : ∀ s', Inv X pins (σ.set i (some v)) H s' → (∃ a, Heap.SameBut a s.heap s'.heap ∧ (a = X.env.locals ∨ X.env.cells.lookup x = some a)) → Q () s') (hf : X.fn x = true ∨ X.env.scope.names.lookup x = some .local := by first | exact .inl rfl | exact .inr rfl | assumption) : wpAny M A (storeName X.env x u) Q E s := by
  obtain ⟨m, hn, hl⟩ := id I.loc
  have hcls : (X.env.scope.kind == .class || (X.env.scope.kind == .module && X.env.locals != X.env.globals)) = false := by rw [I.ok.kind]; rfl
  have hiσ : i < σ.length := by rw [I.len]; exact (List.getElem?_eq_some_iff.mp hi).1
  have cne := I.cne
  have tracked : ∀ {a : Addr} {h' : Heap}, (∃ o, s.heap.get? a = some o ∧ H a = none) → Heap.SameBut a s.heap h' → HOk X.prog X.w H h' := fun {a h'} ha hs b ob e => by
    obtain ⟨_, _, hfree⟩ := ha
    refine (I.hok b ob e).stay (fun c w' hc q => (hs.2 c ?_).trans q) (fun _ q => q) fun _ _ q => q
    rintro rfl
    rcases hc with rfl | hc
    · rw [hfree] at e; cases e
    · rw [hfree] at hc; cases hc
  rcases hx with hk | hk
  · refine wpAny_storeName_local hk hn (fun h' hn' hs => ?_) hcls
    obtain ⟨oL, _, _, hoL, _⟩ := id hn
    refine h _ ⟨I.ok, I.os, I.bare, ⟨fun b o e n hb hx => ?_, fun b o e n hb hx => ?_, I.base.free, fun b o e hx => ?_, I.base.tups, I.base.frzs, I.base.tbls⟩, ⟨_, hn', fun j y v' e1 e2 e3 => ?_⟩, fun y c e => ?_, I.free, I.freeC, fun p hp => ?_, tracked ⟨oL, hoL, I.free⟩ hs, by simpa using I.len⟩ ⟨_, hs, .inl rfl⟩
    · exact (hs.2 b (Nat.ne_of_lt (Nat.lt_of_lt_of_le (Heap.lt_size e) I.ok.above))).trans (I.base.keep b o e n hb hx)
    · obtain ⟨sl, e1⟩ := I.base.slot b o e n hb hx
      exact ⟨sl, (hs.2 b (Nat.ne_of_lt (Nat.lt_of_lt_of_le (Heap.lt_size e) I.ok.above))).trans e1⟩
    · obtain ⟨o', e1⟩ := I.base.there b o e hx
      exact ⟨o', (hs.2 b (Nat.ne_of_lt (Nat.lt_of_lt_of_le (Heap.lt_size e) I.ok.above))).trans e1⟩
    · by_cases hj : j = i
      · subst hj
        rw [hi] at e1; cases e1
        rw [List.getElem?_set_self hiσ] at e2
        cases e2
        exact ⟨u, r, .inl ⟨hk, by simp⟩⟩
      · rw [List.getElem?_set_ne (Ne.symm hj)] at e2
        obtain ⟨u', r', q⟩ := hl j y v' e1 e2 e3
        refine ⟨u', r', ?_⟩
        rcases q with ⟨k, e⟩ | ⟨k, c, e, z⟩
        · refine .inl ⟨k, ?_⟩
          have : y ≠ x := fun e => hj (nodup_ix hN e1 (e ▸ hi))
          simp [this, e]
        · exact .inr ⟨k, c, e, z.sameBut hs (cne y c e)⟩
    · obtain ⟨w', z⟩ := I.cell y c e
      exact ⟨w', z.sameBut hs (cne y c e)⟩
    · obtain ⟨e, n, ne, nf, d⟩ := I.pin p hp
      exact ⟨(hs.2 p.1 ne).trans e, n, ne, nf, d⟩
  · have hfn : X.fn x = true := by
      rcases hf with z | z
      · exact z
      · rw [z] at hk; cases hk
    obtain ⟨c, hc⟩ := I.ok.has x (.inl hk)
    obtain ⟨w', z⟩ := I.cell x c hc
    refine wpAny_storeName_cell I.ok.kind hk hc z (fun h' hc' hs => ?_)
    obtain ⟨oc, hoc, hocd⟩ := id z
    refine h { s with heap := h' } ⟨I.ok, I.os, I.bare, ⟨fun b o e n hb hx => ?_, fun b o e n hb hx => ?_, I.base.free, fun b o e hx => ?_, I.base.tups, I.base.frzs, I.base.tbls⟩, ⟨m, hn.sameBut hs (Ne.symm (cne x c hc)), fun j y v' e1 e2 e3 => ?_⟩, fun y c' e => ?_, I.free, I.freeC, fun p hp => ?_, tracked ⟨oc, hoc, I.freeC x c hc⟩ hs, by simpa using I.len⟩ ⟨c, hs, .inr hc⟩
    · exact (hs.2 b (Nat.ne_of_lt (Nat.lt_of_lt_of_le (Heap.lt_size e) (I.ok.cab x c hfn hc)))).trans (I.base.keep b o e n hb hx)
    · obtain ⟨sl, e1⟩ := I.base.slot b o e n hb hx
      exact ⟨sl, (hs.2 b (Nat.ne_of_lt (Nat.lt_of_lt_of_le (Heap.lt_size e) (I.ok.cab x c hfn hc)))).trans e1⟩
    · obtain ⟨o', e1⟩ := I.base.there b o e hx
      exact ⟨o', (hs.2 b (Nat.ne_of_lt (Nat.lt_of_lt_of_le (Heap.lt_size e) (I.ok.cab x c hfn hc)))).trans e1⟩
    · by_cases hj : j = i
      · subst hj
        rw [hi] at e1; cases e1
        rw [List.getElem?_set_self hiσ] at e2
        cases e2
        exact ⟨u, r, .inr ⟨.inl hk, c, hc, hc'⟩⟩
      · rw [List.getElem?_set_ne (Ne.symm hj)] at e2
        obtain ⟨u', r', q⟩ := hl j y v' e1 e2 e3
        refine ⟨u', r', ?_⟩
        rcases q with q | ⟨k, c', e, z'⟩
        · exact .inl q
        · refine .inr ⟨k, c', e, z'.sameBut hs ?_⟩
          rintro rfl
          exact hj (nodup_ix hN e1 (I.ok.inj _ _ _ e hc ▸ hi))
    · by_cases hcc : c' = c
      · subst hcc; exact ⟨_, hc'⟩
      · obtain ⟨w2, z2⟩ := I.cell y c' e
        exact ⟨w2, z2.sameBut hs hcc⟩
    · obtain ⟨e, n, ne, nf, d⟩ := I.pin p hp
      refine ⟨(hs.2 p.1 ?_).trans e, n, ne, nf, d⟩
      intro q
      rw [q, hoc] at e
      have q' : oc = p.2 := Option.some.inj e
      exact d w' (by rw [← q']; exact hocd)
theorem store_ok {M : Model} {A : Around} {E : Value → Shared → Prop} {i : Nat} {x : Str} {v : V} {u : Value} {Q : Unit → Shared → Prop} (I : Inv X pins σ H s) (hN : X.N.Nodup) (hi : X.N[i]? = some x) (hx : Loc X.env.scope x) (r : RelV v u)
    (h : ∀ s', Inv X pins (σ.set i (some v)) H s' → Q () s') (hf : X.fn x = true ∨ X.env.scope.names.lookup x = some .local := by first | exact .inl rfl | exact .inr rfl | assumption) : wpAny M A (storeName X.env x u) Q E s :=
  store_ok2 I hN hi hx r (fun s' I' _ => h s' I') hf
/-- behind a call or a block, the state as it is -/
theorem Inv.call' {s' : Shared} {ch : List Addr} (I : Inv X pins σ H s) (ho : s'.os = s.os) (u : Un (frs X.stack) ch H H' s.heap s'.heap) (hok : HOk X.prog X.w H' s'.heap) (hg : AllBare s'.gens)
    (hch : ∀ b ∈ ch, (b ∈ X.ex ∨ X.s₀.heap.objs.size ≤ b) ∧ b ≠ X.env.locals ∧ (∀ x c, X.env.cells.lookup x = some c → c ≠ b) ∧ ∀ p ∈ X.pn ++ pins, p.1 ≠ b) : Inv X pins σ H' s' := by
  obtain ⟨h', g', d', t', o'⟩ := s'
  have e : o' = s.os := ho
  subst e
  exact I.call (g' := g') (t' := t') (d' := d') u hok hg hch
end

/-! ### the judgements -/
/-- an exception: its class, its own dict's address (where it has one), the abstract heap behind it -/
abbrev XK := Value → Option Addr → Hp → Prop
abbrev St := List (Option V)
abbrev VK := V → Hp → Prop
/-- an expression's reading; a test's; an argument list's -/
abbrev TE := St → Hp → VK → Prop
abbrev TT := St → Hp → (Bool → Hp → Prop) → Prop
abbrev TA := St → Hp → (List V → Hp → Prop) → Prop
/-- what is wanted behind a statement -/
structure Ends where
  nx : St → Hp → Prop
  rt : VK
  bk : St → Hp → Prop := fun _ _ => False
  ct : St → Hp → Prop := fun _ _ => False
abbrev TS := Ends → St → Hp → Prop

def EP (X : Cx) (pins : List (Addr × Obj)) (σ : St) (Q : VK) (u : Value) (s' : Shared) : Prop := ∃ v H', Inv X pins σ H' s' ∧ RelV v u ∧ Q v H'
def TP (X : Cx) (pins : List (Addr × Obj)) (σ : St) (Q : Bool → Hp → Prop) (b : Bool) (s' : Shared) : Prop := ∃ H', Inv X pins σ H' s' ∧ Q b H'
def AP (X : Cx) (pins : List (Addr × Obj)) (σ : St) (Q : List V → Hp → Prop) (us : List Value) (s' : Shared) : Prop := ∃ vs H', Inv X pins σ H' s' ∧ Vals vs us ∧ Q vs H'
def SP (X : Cx) (pins : List (Addr × Obj)) (D : Ends) (f : Flow) (s' : Shared) : Prop :=
  match f with
  | .next => ∃ σ' H', Inv X pins σ' H' s' ∧ D.nx σ' H'
  | .brk => ∃ σ' H', Inv X pins σ' H' s' ∧ D.bk σ' H'
  | .cont => ∃ σ' H', Inv X pins σ' H' s' ∧ D.ct σ' H'
  | .ret u => ∃ v σ' H', Inv X pins σ' H' s' ∧ RelV v u ∧ D.rt v H'

def PE (X : Cx) (e : Expr) (t : TE) : Prop :=
  ∀ (pins : List (Addr × Obj)) (s : Shared) (σ : St) (H : Hp) (Q : VK), Inv X pins σ H s → t σ H Q → wpAny (model X.prog X.w) X.A (eval e X.env) (EP X pins σ Q) X.xe s
def PT (X : Cx) (e : Expr) (t : TT) : Prop :=
  ∀ (pins : List (Addr × Obj)) (s : Shared) (σ : St) (H : Hp) (Q : Bool → Hp → Prop), Inv X pins σ H s → t σ H Q → wpAny (model X.prog X.w) X.A (isTrue e X.env (eval e X.env)) (TP X pins σ Q) X.xe s
/-- a test whatever its 'whole' is (and, or) -/
def PW (X : Cx) (e : Expr) (t : TT) : Prop :=
  ∀ (whole : Sem Value) (pins : List (Addr × Obj)) (s : Shared) (σ : St) (H : Hp) (Q : Bool → Hp → Prop), Inv X pins σ H s → t σ H Q → wpAny (model X.prog X.w) X.A (isTrue e X.env whole) (TP X pins σ Q) X.xe s
theorem PW.pt {X : Cx} {e : Expr} {t : TT} (h : PW X e t) : PT X e t := h _
/-- an argument list (no star), from the left -/
def PA (X : Cx) (es : List Expr) (t : TA) : Prop :=
  ∀ (pos : Pos) (pins : List (Addr × Obj)) (s : Shared) (σ : St) (H : Hp) (Q : List V → Hp → Prop), Inv X pins σ H s → t σ H Q → wpAny (model X.prog X.w) X.A (spliced (backTo pos (starEach es X.env))) (AP X pins σ Q) X.xe s
def PS (X : Cx) (st : Stmt) (t : TS) : Prop :=
  ∀ (pins : List (Addr × Obj)) (s : Shared) (σ : St) (H : Hp) (D : Ends), Inv X pins σ H s → t D σ H → wpAny (model X.prog X.w) X.A (exec st X.env) (SP X pins D) X.xe s
def PSs (X : Cx) (st : List Stmt) (t : TS) : Prop :=
  ∀ (pins : List (Addr × Obj)) (s : Shared) (σ : St) (H : Hp) (D : Ends), Inv X pins σ H s → t D σ H → wpAny (model X.prog X.w) X.A (execs st X.env) (SP X pins D) X.xe s
/-- weaken the end -/
theorem thn {α : Type} {t : Sem α} {Q Q' : α → Shared → Prop} {M : Model} {A : Around} {E : Value → Shared → Prop} {s : Shared} (h : wpAny M A t Q E s) (hQ : ∀ a s, Q a s → Q' a s) : wpAny M A t Q' E s := wpAny_mono h hQ fun _ _ x => x
end L2

namespace L2
open PySem PySem.Spec PyProof.Rows
section
variable {X : Cx}

/-- two expressions in a row -/
theorem bin {a b : Expr} {ta tb : TE} (ha : PE X a ta) (hb : PE X b tb) {pins : List (Addr × Obj)} {s : Shared} {σ : St} {H : Hp} {R : V → V → Hp → Prop} (I : Inv X pins σ H s) (h : ta σ H fun x H1 => tb σ H1 fun y H2 => R x y H2)
    {α : Type} {Q : α → Shared → Prop} {f : Value → Value → Sem α}
    (hf : ∀ v u s2 x y H2, Inv X pins σ H2 s2 → RelV x v → RelV y u → R x y H2 → wpAny (model X.prog X.w) X.A (f v u) Q X.xe s2) :
    wpAny (model X.prog X.w) X.A (eval a X.env) (fun v s₁ => wpAny (model X.prog X.w) X.A (eval b X.env) (fun u s₂ => wpAny (model X.prog X.w) X.A (f v u) Q X.xe s₂) X.xe s₁) X.xe s := by
  refine thn (ha pins s σ H _ I h) fun v s1 ⟨x, H1, I1, r1, q1⟩ => ?_
  refine thn (hb pins s1 σ H1 _ I1 q1) fun u s2 ⟨y, H2, I2, r2, q2⟩ => ?_
  exact hf v u s2 x y H2 I2 r1 r2 q2

/-! ### names and constants -/
def tVar (i : Nat) : TE := fun σ H Q => ∃ v, σ[i]? = some (some v) ∧ Q v H
def tC (v : V) : TE := fun _ H Q => Q v H
theorem pe_var {i : Nat} {x : Str} {pos : Pos} (hN : X.N[i]? = some x) (hv : Vis X.env.scope x) (hd : (x == ("__debug__" : Str)) = false := by decide) (hcd : (x == ("__classdict__" : Str)) = false := by decide) : PE X (.Name x pos) (tVar i) := by
  intro pins s σ H Q I h
  obtain ⟨v, e, h⟩ := h
  obtain ⟨m, hn, hl⟩ := I.loc
  obtain ⟨u, r, l⟩ := hl i x v hN e hv
  have fin : EP X pins σ Q u s := ⟨v, H, I, r, h⟩
  rcases l with ⟨hk, hm⟩ | ⟨hk, c, hc, hcell⟩
  · exact wpAny_Name (wpAny_loadName_local I.ok.kind hk hn hm fin) hd
  · rcases hk with hk | hk
    · exact wpAny_Name (wpAny_loadName_cell I.ok.kind hk hc hcell fin) hd
    · exact wpAny_Name (wpAny_loadName_free I.ok.kind hk hc hcell fin hcd) hd
theorem pe_int {i j pos} : PE X (.Constant (.int i) j pos) (tC (.int i)) := fun _ _ _ H _ I h => wpAny_Constant_int ⟨.int i, H, I.tok _, ⟨_, rfl⟩, h⟩
theorem pe_bl {b j pos} : PE X (.Constant (.bool b) j pos) (tC (.bl b)) := fun _ _ _ H _ I h => Constant_bool ⟨.bl b, H, I, rfl, h⟩
theorem pe_non {j pos} : PE X (.Constant .none j pos) (tC .non) := fun _ _ _ H _ I h => Constant_none ⟨.non, H, I, rfl, h⟩

/-- a global name of the def -/
def Gl (X : Cx) (x : Str) : Prop := X.env.kindOf x = some .globalImplicit
theorem ld_glob {E : Value → Shared → Prop} {pins : List (Addr × Obj)} {s : Shared} {σ : St} {H : Hp} {x : Str} {u : Value} {pos : Pos} {Q : Value → Shared → Prop} (I : Inv X pins σ H s) (hg : Gl X x) (hm : X.mg x = some u) (h : Q u s)
    (hd : (x == ("__debug__" : Str)) = false := by decide) : wpAny (model X.prog X.w) X.A (eval (.Name x pos) X.env) Q E s :=
  Calls.Name_function_global I.ok.kind hg (Calls.loadGlobal_global (by rw [I.ok.glob]; exact I.mod.glob.keeps I.bk) hm h) hd
theorem ld_blt {E : Value → Shared → Prop} {pins : List (Addr × Obj)} {s : Shared} {σ : St} {H : Hp} {x : Str} {u : Value} {pos : Pos} {Q : Value → Shared → Prop} (I : Inv X pins σ H s) (hg : Gl X x) (hm : X.mg x = none) (hv : bootBuiltins x = some u) (h : Q u s)
    (hn : x ≠ "__name__" := by decide) (hd : (x == ("__debug__" : Str)) = false := by decide) : wpAny (model X.prog X.w) X.A (eval (.Name x pos) X.env) Q E s := by
  obtain ⟨mb, h1, h2⟩ := I.mod.blt
  exact Calls.Name_function_global I.ok.kind hg (Calls.loadGlobal_builtin (by rw [I.ok.glob]; exact I.mod.glob.keeps I.bk) hm (by rw [I.ok.blt]; exact h1.keeps I.bk) ((h2 x hn).trans hv) h) hd
/-- a module's constant, a class, a function, as a value -/
theorem pe_glob {x : Str} {v : V} {u : Value} {pos : Pos} (hg : Gl X x) (hm : X.mg x = some u) (r : RelV v u) (hd : (x == ("__debug__" : Str)) = false := by decide) : PE X (.Name x pos) (tC v) :=
  fun _ _ _ H _ I h => ld_glob I hg hm ⟨v, H, I, r, h⟩ hd

/-! ### arithmetic -/
/-- two ints -/
def t2I (ta tb : TE) (k : Int → Int → Hp → Prop) : St → Hp → Prop := fun σ H => ta σ H fun x H1 => tb σ H1 fun y H2 => ∃ i j, x = .int i ∧ y = .int j ∧ k i j H2
variable {a b : Expr} {ta tb : TE} {pos : Pos}

/-! ### comparisons -/
def PC (X : Cx) (op : CmpOp) (a b : Expr) (t : TE) : Prop :=
  ∀ (pins : List (Addr × Obj)) (s : Shared) (σ : St) (H : Hp) (Q : VK), Inv X pins σ H s → t σ H Q →
    wpAny (model X.prog X.w) X.A (eval a X.env) (fun v s₁ => wpAny (model X.prog X.w) X.A (eval b X.env) (fun u s₂ => wpAny (model X.prog X.w) X.A (compareOp op v u) (EP X pins σ Q) X.xe s₂) X.xe s₁) X.xe s
theorem nobehind (b : Expr) {op : CmpOp} (h : op ≠ .In) (h2 : op ≠ .NotIn) : behindInMarks op b = false := by
  have e1 : (op == CmpOp.In) = false := by cases op <;> first | rfl | exact absurd rfl h
  have e2 : (op == CmpOp.NotIn) = false := by cases op <;> first | rfl | exact absurd rfl h2
  cases b <;> simp [behindInMarks, e1, e2]
def tCmp (p : Int → Int → Bool) (ta tb : TE) : TE := fun σ H Q => t2I ta tb (fun i j H2 => Q (.bl (p i j)) H2) σ H
abbrev tLt : TE → TE → TE := tCmp fun i j => decide (i < j)
abbrev tLe : TE → TE → TE := tCmp fun i j => decide (i ≤ j)
abbrev tGt : TE → TE → TE := tCmp fun i j => decide (j < i)
abbrev tGe : TE → TE → TE := tCmp fun i j => decide (j ≤ i)
abbrev tEqI : TE → TE → TE := tCmp fun i j => decide (i = j)
abbrev tNeI : TE → TE → TE := tCmp fun i j => !decide (i = j)
/-- a comparison of two ints, by its rule -/
theorem pc_int {op : CmpOp} {p : Int → Int → Bool} (ha : PE X a ta) (hb : PE X b tb)
    (rule : ∀ (i j : Int) (t u : Tok) (Q : Value → Shared → Prop) (s : Shared), Q (.bool (p i j)) s → wpAny (model X.prog X.w) X.A (compareOp op (.int i t) (.int j u)) Q X.xe s) : PC X op a b (tCmp p ta tb) := by
  intro pins s σ H Q I h
  refine bin ha hb I h fun v u s2 x y H2 I2 rx ry q => ?_
  obtain ⟨i, j, rfl, rfl, q⟩ := q
  obtain ⟨t, rfl⟩ := rx
  obtain ⟨t', rfl⟩ := ry
  exact rule i j t t' _ s2 ⟨.bl _, H2, I2, rfl, q⟩
theorem pc_lt (ha : PE X a ta) (hb : PE X b tb) : PC X .Lt a b (tLt ta tb) := pc_int ha hb fun _ _ _ _ _ _ h => lt_int h
theorem pc_le (ha : PE X a ta) (hb : PE X b tb) : PC X .LtE a b (tLe ta tb) := pc_int ha hb fun _ _ _ _ _ _ h => le_int h
theorem pc_gt (ha : PE X a ta) (hb : PE X b tb) : PC X .Gt a b (tGt ta tb) := pc_int ha hb fun _ _ _ _ _ _ h => gt_int h
theorem pc_ge (ha : PE X a ta) (hb : PE X b tb) : PC X .GtE a b (tGe ta tb) := pc_int ha hb fun _ _ _ _ _ _ h => ge_int h
theorem pc_eqI (ha : PE X a ta) (hb : PE X b tb) : PC X .Eq a b (tEqI ta tb) := pc_int ha hb fun _ _ _ _ _ _ h => eq_int (by rw [Bool.beq_eq_decide_eq]; exact h)
theorem pc_neI (ha : PE X a ta) (hb : PE X b tb) : PC X .NotEq a b (tNeI ta tb) := pc_int ha hb fun _ _ _ _ _ _ h => ne_int (by rw [bne, Bool.beq_eq_decide_eq]; exact h)
/-- is None -/
def tIsN (ta : TE) : TE := fun σ H Q => ta σ H fun x H1 => Q (.bl (decide (x = .non))) H1
theorem RelV.none_iff {x : V} {v : Value} (r : RelV x v) : (v == Value.none) = decide (x = .non) := by
  cases x with
  | non => cases r; rfl
  | bl _ => cases r; rfl
  | int _ => obtain ⟨t, rfl⟩ := r; rfl
  | str _ => obtain ⟨t, rfl⟩ := r; rfl
  | byt _ => obtain ⟨t, rfl⟩ := r; rfl
  | flt _ => obtain ⟨t, rfl⟩ := r; rfl
  | ref _ => cases r; rfl
  | ty _ => cases r; rfl
theorem pc_isN {j pos'} (ha : PE X a ta) : PC X .Is a (.Constant .none j pos') (tIsN ta) := by
  intro pins s σ H Q I h
  refine thn (ha pins s σ H _ I h) fun v s1 ⟨x, H1, I1, r1, q1⟩ => ?_
  exact Constant_none (is_none_gen ⟨.bl _, H1, I1, by rw [r1.none_iff]; rfl, q1⟩)
/-- a comparison as a value, as a test -/
def tB (t : TE) : TT := fun σ H Q => t σ H fun x H1 => ∃ c, x = .bl c ∧ Q c H1
theorem pe_cmp {op : CmpOp} {t : TE} (h : PC X op a b t) (h1 : behindInMarks op b = false := by first | exact nobehind _ (by decide) (by decide) | rfl) : PE X (.Compare a [op] [b] pos) t := fun pins s σ H Q I hw => wpAny_Compare1 (h pins s σ H Q I hw) h1
theorem pt_cmp {op : CmpOp} {t : TE} (h : PC X op a b t) (h1 : behindInMarks op b = false := by first | exact nobehind _ (by decide) (by decide) | rfl) : PT X (.Compare a [op] [b] pos) (tB t) := by
  intro pins s σ H Q I hw
  refine wpAny_isTrue_Compare1 (thn (h pins s σ H _ I hw) fun v s1 h1 => thn h1 fun u s2 h2 => thn h2 fun c s3 ⟨x, H1, I1, r1, q1⟩ => ?_) h1
  obtain ⟨d, rfl, q⟩ := q1
  cases r1
  exact wpAny_truthy_bool ⟨H1, I1, q⟩
/-- an expression whose value is a bool, as a test -/
theorem pt_val {e : Expr} {t : TE} (h : PE X e t) (he : ∀ whole, isTrue e X.env whole = (do let v ← whole; standAt e.pos; holding [v] (truthy v)) := by intro _; rfl) : PT X e (tB t) := by
  intro pins s σ H Q I hw
  refine isTrue_plain (thn (h pins s σ H _ I hw) fun v s1 ⟨x, H1, I1, r1, q1⟩ => ?_) (he _)
  obtain ⟨d, rfl, q⟩ := q1
  cases r1
  exact wpAny_truthy_bool ⟨H1, I1, q⟩

/-! ### and, or, not -/
variable {tA tB' : TT} {rest : List Expr}
def tAnd (t u : TT) : TT := fun σ H Q => t σ H fun c H1 => if c = true then u σ H1 Q else Q false H1
def tOr (t u : TT) : TT := fun σ H Q => t σ H fun c H1 => if c = true then Q true H1 else u σ H1 Q
def tNot (t : TT) : TT := fun σ H Q => t σ H fun c H1 => Q (!c) H1
theorem pw_and1 (ha : PT X a tA) : PW X (.BoolOp .And [a] pos) tA := by
  intro wh pins s σ H Q I h
  refine isTrue_and (thn (ha pins s σ H Q I h) fun c s1 e => ?_)
  cases c with
  | true => exact isTrue_and_nil e
  | false => exact e
theorem pw_or1 (ha : PT X a tA) : PW X (.BoolOp .Or [a] pos) tA := by
  intro wh pins s σ H Q I h
  refine isTrue_or (thn (ha pins s σ H Q I h) fun c s1 e => ?_)
  cases c with
  | false => exact isTrue_or_nil e
  | true => exact e
theorem pw_and (ha : PT X a tA) (hb : PW X (.BoolOp .And (b :: rest) pos) tB') : PW X (.BoolOp .And (a :: b :: rest) pos) (tAnd tA tB') := by
  intro wh pins s σ H Q I h
  refine isTrue_and (thn (ha pins s σ H _ I h) fun c s1 ⟨H1, I1, q1⟩ => ?_)
  cases c with
  | true => exact hb wh pins s1 σ H1 Q I1 q1
  | false => exact ⟨H1, I1, q1⟩
theorem pw_or (ha : PT X a tA) (hb : PW X (.BoolOp .Or (b :: rest) pos) tB') : PW X (.BoolOp .Or (a :: b :: rest) pos) (tOr tA tB') := by
  intro wh pins s σ H Q I h
  refine isTrue_or (thn (ha pins s σ H _ I h) fun c s1 ⟨H1, I1, q1⟩ => ?_)
  cases c with
  | true => exact ⟨H1, I1, q1⟩
  | false => exact hb wh pins s1 σ H1 Q I1 q1
theorem pt_not (ha : PT X a tA) : PT X (.UnaryOp .Not a pos) (tNot tA) := by
  intro pins s σ H Q I h
  exact isTrue_not (ha pins s σ H (fun c H1 => Q (!c) H1) I h)
/-- .. as values (bools) -/
def tAndV (ta tb : TE) : TE := fun σ H Q => ta σ H fun x H1 => ∃ c, x = .bl c ∧ if c = true then tb σ H1 Q else Q (.bl false) H1
def tOrV (ta tb : TE) : TE := fun σ H Q => ta σ H fun x H1 => ∃ c, x = .bl c ∧ if c = true then Q (.bl true) H1 else tb σ H1 Q
theorem pe_one {op} {t : TE} (h : PE X a t) : PE X (.BoolOp op [a] pos) t := fun pins s σ H Q I hw => BoolOp_one (h pins s σ H Q I hw)
theorem pe_and (ha : PE X a ta) (hb : PE X (.BoolOp .And (b :: rest) pos) tb) : PE X (.BoolOp .And (a :: b :: rest) pos) (tAndV ta tb) := by
  intro pins s σ H Q I h
  refine BoolOp_and (thn (ha pins s σ H _ I h) fun v s1 ⟨x, H1, I1, r1, q1⟩ => ?_)
  obtain ⟨c, rfl, q1⟩ := q1
  cases r1
  refine wpAny_truthy_bool ?_
  cases c with
  | true => exact hb pins s1 σ H1 Q I1 q1
  | false => exact ⟨.bl false, H1, I1, rfl, q1⟩
theorem pe_or (ha : PE X a ta) (hb : PE X (.BoolOp .Or (b :: rest) pos) tb) : PE X (.BoolOp .Or (a :: b :: rest) pos) (tOrV ta tb) := by
  intro pins s σ H Q I h
  refine BoolOp_or (thn (ha pins s σ H _ I h) fun v s1 ⟨x, H1, I1, r1, q1⟩ => ?_)
  obtain ⟨c, rfl, q1⟩ := q1
  cases r1
  refine wpAny_truthy_bool ?_
  cases c with
  | false => exact hb pins s1 σ H1 Q I1 q1
  | true => exact ⟨.bl true, H1, I1, rfl, q1⟩
/-- a if t else b -/
def tIf (t : TT) (ta tb : TE) : TE := fun σ H Q => t σ H fun c H1 => if c = true then ta σ H1 Q else tb σ H1 Q
theorem pe_ifExp {c : Expr} (hc : PT X c tA) (ha : PE X a ta) (hb : PE X b tb) : PE X (.IfExp c a b pos) (tIf tA ta tb) := by
  intro pins s σ H Q I h
  refine wpAny_IfExp (thn (hc pins s σ H _ I h) fun d s1 ⟨H1, I1, q1⟩ => ?_)
  cases d with
  | true => exact ha pins s1 σ H1 Q I1 q1
  | false => exact hb pins s1 σ H1 Q I1 q1
end
end L2

namespace L2
open PySem PySem.Spec PyProof.Rows

/-! ### a list, a tuple that is read: tracked, frozen, or an object of the module -/
def SqL (K : PySem.W.Frag) (H : Hp) (a : Addr) (xs : List V) : Prop :=
  Rd H a (.lst xs) ∨
    ∃ (o : Obj) (its : Array Value) (n : Nat), K.lookup a = some o ∧ o.cls = .type "list" ∧ o.dict = none ∧ o.data = .seq its n ∧ its.size ≤ sizeLine ∧ Vals xs its.toList
def SqT (K : PySem.W.Frag) (H : Hp) (a : Addr) (xs : List V) : Prop :=
  Rd H a (.tup xs) ∨
    ∃ (o : Obj) (its : Array Value) (n : Nat), K.lookup a = some o ∧ o.cls = .type "tuple" ∧ o.data = .seq its n ∧ its.size ≤ sizeLine ∧ Vals xs its.toList
def absV : Value → Option V
  | .none => some .non
  | .bool b => some (.bl b)
  | .int i _ => some (.int i)
  | .str x _ => some (.str x)
  | .bytes b _ => some (.byt b)
  | .float b _ => some (.flt b)
  | .ref a => some (.ref a)
  | .type n => some (.ty n)
  | _ => none
theorem RelV.abs {x : V} {u : Value} (r : RelV x u) : absV u = some x := by
  cases x with
  | non => cases r; rfl
  | bl _ => cases r; rfl
  | int _ => obtain ⟨t, rfl⟩ := r; rfl
  | str _ => obtain ⟨t, rfl⟩ := r; rfl
  | byt _ => obtain ⟨t, rfl⟩ := r; rfl
  | flt _ => obtain ⟨t, rfl⟩ := r; rfl
  | ref _ => cases r; rfl
  | ty _ => cases r; rfl
theorem RelV.inj {x y : V} {u : Value} (r : RelV x u) (q : RelV y u) : x = y := Option.some.inj (r.abs.symm.trans q.abs)
theorem Vals.inj : ∀ {xs ys : List V} {us : List Value}, Vals xs us → Vals ys us → xs = ys
  | _, _, _, .nil, .nil => rfl
  | _, _, _, .cons r t, .cons r' t' => by rw [r.inj r', Vals.inj t t']
section
variable {X : Cx} {pins : List (Addr × Obj)} {σ : St} {H : Hp} {s : Shared} {a : Addr} {xs ys : List V}
theorem SqL.of {K : PySem.W.Frag} (h : H a = some (.lst xs)) : SqL K H a xs := .inl (.inl h)
theorem SqT.of {K : PySem.W.Frag} (h : H a = some (.tup xs)) : SqT K H a xs := .inl (.inl h)
theorem Inv.list (I : Inv X pins σ H s) (h : SqL X.K H a xs) : ∃ its : List Value, Vals xs its ∧ PlainL s.heap a its.toArray ∧ xs.length ≤ sizeLine := by
  rcases h with h | ⟨o, its, n, hk, hc, hd, hs, hz, r⟩
  · obtain ⟨z, its, n, r, e⟩ := h.ok I.hok
    exact ⟨its, r, ⟨_, n, e, rfl, rfl, rfl⟩, z⟩
  · refine ⟨its.toList, r, ⟨o, n, I.kIn a o hk, hc, hd, by simpa using hs⟩, ?_⟩
    have e := r.length
    simp only [Array.length_toList] at e
    omega
theorem Inv.tuple (I : Inv X pins σ H s) (h : SqT X.K H a xs) : ∃ its : List Value, Vals xs its ∧ IsTup s.heap a its.toArray ∧ xs.length ≤ sizeLine := by
  rcases h with h | ⟨o, its, n, hk, hc, hs, hz, r⟩
  · obtain ⟨z, its, r, p⟩ := h.ok I.hok
    exact ⟨its, r, p, z⟩
  · refine ⟨its.toList, r, ⟨o, I.kIn a o hk, hc, n, by simpa using hs⟩, ?_⟩
    have e := r.length
    simp only [Array.length_toList] at e
    omega
theorem Inv.list_inj (I : Inv X pins σ H s) (h : SqL X.K H a xs) (h' : SqL X.K H a ys) : xs = ys := by
  obtain ⟨its, r, ⟨o, n, e, _, _, d⟩, _⟩ := I.list h
  obtain ⟨its', r', ⟨o', n', e', _, _, d'⟩, _⟩ := I.list h'
  rw [e] at e'; cases e'
  rw [d] at d'
  injection d' with d1 _
  have : its = its' := by simpa using congrArg Array.toList d1
  subst this
  exact r.inj r'
theorem Inv.tuple_inj (I : Inv X pins σ H s) (h : SqT X.K H a xs) (h' : SqT X.K H a ys) : xs = ys := by
  obtain ⟨its, r, ⟨o, e, _, n, d⟩, _⟩ := I.tuple h
  obtain ⟨its', r', ⟨o', e', _, n', d'⟩, _⟩ := I.tuple h'
  rw [e] at e'; cases e'
  rw [d] at d'
  injection d' with d1 _
  have : its = its' := by simpa using congrArg Array.toList d1
  subst this
  exact r.inj r'
end

/-! ### another wish about exceptions -/
abbrev Cx.wish (X : Cx) (E : Value → Shared → Prop) : Cx := { X with xe := E }
/-- no exception leaves -/
abbrev Cx.nox (X : Cx) : Cx := X.wish fun _ _ => False
theorem Cx.Ok.wish {X : Cx} (ok : X.Ok) (E : Value → Shared → Prop) : (X.wish E).Ok :=
  ⟨ok.mod, ok.kind, ok.glob, ok.blt, ok.above, ok.inj, ok.has, ok.cab, ok.hd, ok.frames, ok.stk, ok.exf, ok.bs, ok.bsz, ok.noex, ok.exfs, ok.funs, ok.frf⟩
theorem Cx.Ok.unwish {X : Cx} {E : Value → Shared → Prop} (ok : (X.wish E).Ok) : X.Ok :=
  ⟨ok.mod, ok.kind, ok.glob, ok.blt, ok.above, ok.inj, ok.has, ok.cab, ok.hd, ok.frames, ok.stk, ok.exf, ok.bs, ok.bsz, ok.noex, ok.exfs, ok.funs, ok.frf⟩
section
variable {X : Cx} {pins : List (Addr × Obj)} {σ : St} {H : Hp} {s : Shared} {E : Value → Shared → Prop}
theorem Inv.wish (I : Inv X pins σ H s) (E : Value → Shared → Prop) : Inv (X.wish E) pins σ H s := ⟨I.ok.wish E, I.os, I.bare, I.base, I.loc, I.cell, I.free, I.freeC, I.pin, I.hok, I.len⟩
theorem Inv.unwish (I : Inv (X.wish E) pins σ H s) : Inv X pins σ H s := ⟨I.ok.unwish, I.os, I.bare, I.base, I.loc, I.cell, I.free, I.freeC, I.pin, I.hok, I.len⟩
theorem SP.unwish {D : Ends} {f : Flow} {s' : Shared} (h : SP (X.wish E) pins D f s') : SP X pins D f s' := by
  cases f with
  | next => obtain ⟨σ', H', I, q⟩ := h; exact ⟨σ', H', I.unwish, q⟩
  | brk => obtain ⟨σ', H', I, q⟩ := h; exact ⟨σ', H', I.unwish, q⟩
  | cont => obtain ⟨σ', H', I, q⟩ := h; exact ⟨σ', H', I.unwish, q⟩
  | ret u => obtain ⟨v, σ', H', I, r, q⟩ := h; exact ⟨v, σ', H', I.unwish, r, q⟩
theorem PSs.nox {st : List Stmt} {t : TS} (h : PSs X.nox st t) : PSs X st t := fun pins s σ H D I hw =>
  wpAny_mono (h pins s σ H D (I.wish _) hw) (fun _ _ q => q.unwish) fun _ _ z => False.elim z
end

/-! ### blocks and small statements -/
section
variable {X : Cx} {st : Stmt} {rest : List Stmt} {t u : TS} {e : Expr} {te : TE} {pos : Pos}
def tNext : TS := fun D σ H => D.nx σ H
def tSeq (t u : TS) : TS := fun D σ H => t { D with nx := u D } σ H
theorem pss_nil : PSs X [] tNext := fun _ _ σ H _ I h => wpAny_execs_nil ⟨σ, H, I, h⟩
theorem pss_cons (h1 : PS X st t) (h2 : PSs X rest u) : PSs X (st :: rest) (tSeq t u) := by
  intro pins s σ H D I h
  refine wpAny_execs_cons (thn (h1 pins s σ H { D with nx := u D } I h) fun f s1 q => ?_)
  cases f with
  | next =>
    obtain ⟨σ', H', I', q⟩ := q
    exact h2 pins s1 σ' H' D I' q
  | ret v => exact q
  | brk => exact q
  | cont => exact q
theorem pss_one (h1 : PS X st t) : PSs X [st] t := by
  intro pins s σ H D I h
  refine wpAny_execs_cons (thn (h1 pins s σ H D I h) fun f s1 q => ?_)
  cases f with
  | next => exact wpAny_execs_nil q
  | ret v => exact q
  | brk => exact q
  | cont => exact q
def tBreak : TS := fun D σ H => D.bk σ H
theorem ps_break : PS X (.Break pos) tBreak := fun _ _ σ H _ I h => wpAny_Break ⟨σ, H, I, h⟩
/-- in a def's body nothing is shown -/
theorem Inv.quiet {pins : List (Addr × Obj)} {σ : St} {H : Hp} {s : Shared} (I : Inv X pins σ H s) : interactive X.env = false := by simp [interactive, I.ok.kind]
/-- an expression whose value is dropped -/
def tDrop (te : TE) : TS := fun D σ H => te σ H fun _ H1 => D.nx σ H1
theorem ps_expr (he : PE X e te) (hs : swapsWith e none pos.line X.env = pure false := by rfl) : PS X (.Expr e pos) (tDrop te) := by
  intro pins s σ H D I h
  exact wpAny_Expr_any (thn (he pins s σ H _ I h) fun v s1 ⟨x, H1, I1, r1, q1⟩ => ⟨σ, H1, I1, q1⟩) I.quiet hs
def tRet (te : TE) : TS := fun D σ H => te σ H D.rt
theorem ps_ret (he : PE X e te) : PS X (.Return (some e) pos) (tRet te) := by
  intro pins s σ H D I h
  exact wpAny_Return_some (thn (he pins s σ H _ I h) fun v s1 ⟨x, H1, I1, r1, q1⟩ => ⟨x, σ, H1, I1, r1, q1⟩)
def tIfS (c : TT) (t u : TS) : TS := fun D σ H => c σ H fun b H1 => if b = true then t D σ H1 else u D σ H1
theorem ps_if {c : Expr} {a b : List Stmt} {tc : TT} (hc : PT X c tc) (ha : PSs X a t) (hb : PSs X b u) : PS X (.If c a b pos) (tIfS tc t u) := by
  intro pins s σ H D I h
  refine wpAny_If (thn (hc pins s σ H _ I h) fun d s1 ⟨H1, I1, q1⟩ => ?_)
  cases d with
  | true => exact ha pins s1 σ H1 D I1 q1
  | false => exact hb pins s1 σ H1 D I1 q1
end

/-! ### targets -/
abbrev TG := V → St → Hp → (St → Hp → Prop) → Prop
abbrev TGs := List V → St → Hp → (St → Hp → Prop) → Prop
def PG (X : Cx) (target : Expr) (t : TG) : Prop :=
  ∀ (pins : List (Addr × Obj)) (s : Shared) (σ : St) (H : Hp) (v : V) (u : Value) (Q : St → Hp → Prop), Inv X pins σ H s → RelV v u → t v σ H Q →
    wpAny (model X.prog X.w) X.A (assign target X.env u) (fun _ s' => ∃ σ' H', Inv X pins σ' H' s' ∧ Q σ' H') X.xe s
/-- several targets, one after another -/
def PGs (X : Cx) (ts : List Expr) (t : TGs) : Prop :=
  ∀ (pins : List (Addr × Obj)) (s : Shared) (σ : St) (H : Hp) (vs : List V) (us : List Value) (Q : St → Hp → Prop), Inv X pins σ H s → Vals vs us → t vs σ H Q →
    wpAny (model X.prog X.w) X.A (assignInOrder ((assignEach ts X.env).map (·.2)) us) (fun _ s' => ∃ σ' H', Inv X pins σ' H' s' ∧ Q σ' H') X.xe s
/-- o[i] = v, by values -/
abbrev TSet := V → V → V → Hp → (Hp → Prop) → Prop
def PSet (X : Cx) (t : TSet) : Prop :=
  ∀ (pins : List (Addr × Obj)) (s : Shared) (σ : St) (H : Hp) (o i v : V) (ov iv u : Value) (Q : Hp → Prop), Inv X pins σ H s → RelV o ov → RelV i iv → RelV v u → t o i v H Q →
    wpAny (model X.prog X.w) X.A (setItem ov iv u) (fun _ s' => ∃ H', Inv X pins σ H' s' ∧ Q H') X.xe s
/-- a op= b, by values -/
abbrev TIp := V → V → Hp → VK → Prop
def PIp (X : Cx) (op : Operator) (t : TIp) : Prop :=
  ∀ (pins : List (Addr × Obj)) (s : Shared) (σ : St) (H : Hp) (x y : V) (v u : Value) (Q : VK), Inv X pins σ H s → RelV x v → RelV y u → t x y H Q →
    wpAny (model X.prog X.w) X.A (inplaceOp op v u) (EP X pins σ Q) X.xe s
section
variable {X : Cx} {pos : Pos}
def gName (i : Nat) : TG := fun v σ H Q => Q (σ.set i (some v)) H
theorem pg_name {i : Nat} {x : Str} (hN : X.N.Nodup) (hi : X.N[i]? = some x) (hx : Loc X.env.scope x) (hf : X.fn x = true ∨ X.env.scope.names.lookup x = some .local := by first | exact .inl rfl | exact .inr rfl | assumption) : PG X (.Name x pos) (gName i) := by
  intro pins s σ H v u Q I r h
  exact wpAny_assign_Name (store_ok I hN hi hx r (fun s' I' => ⟨_, H, I', h⟩) hf)
def gNil : TGs := fun vs σ H Q => vs = [] ∧ Q σ H
def gCons (t : TG) (u : TGs) : TGs := fun vs σ H Q => ∃ v r, vs = v :: r ∧ t v σ H fun σ' H' => u r σ' H' Q
theorem pgs_nil : PGs X [] gNil := by
  intro pins s σ H vs us Q I r h
  obtain ⟨e, h⟩ := h
  subst e
  cases r
  exact assignInOrder_nil ⟨σ, H, I, h⟩
theorem pgs_cons {e : Expr} {es : List Expr} {t : TG} {u : TGs} (h1 : PG X e t) (h2 : PGs X es u)
    (hs : (assignEach (e :: es) X.env).map (·.2) = assign e X.env :: (assignEach es X.env).map (·.2) := by rfl) : PGs X (e :: es) (gCons t u) := by
  intro pins s σ H vs us Q I r h
  obtain ⟨v, vr, e1, h⟩ := h
  subst e1
  cases r with
  | cons r rr =>
    rw [hs]
    refine assignInOrder_cons (thn (h1 pins s σ H _ _ _ I r h) fun _ s1 ⟨σ1, H1, I1, q1⟩ => ?_)
    exact h2 pins s1 σ1 H1 _ _ Q I1 rr q1
/-- (a, b, ..) = a tuple of that length -/
def gTup (K : PySem.W.Frag) (n : Nat) (t : TGs) : TG := fun v σ H Q => ∃ a xs, v = .ref a ∧ SqT K H a xs ∧ xs.length = n ∧ t xs σ H Q
theorem pg_tup {es : List Expr} {k : Nat} {t : TGs} {n : Nat} (hc : X.calm = true) (h : PGs X es t)
    (hn : (assignEach es X.env).length = n := by rfl) (hst : (assignEach es X.env).findIdx? (·.1) = none := by rfl) : PG X (.Tuple es k pos) (gTup X.K n t) := by
  intro pins s σ H v u Q I r hw
  obtain ⟨a, xs, e1, hq, hl, hw⟩ := hw
  subst e1
  cases r
  obtain ⟨its, rv, ht, hz⟩ := I.tuple hq
  refine assign_Tuple_tuple (I.ok.hd hc) ht (by simp [hn, ← hl, rv.length]) hst fun h' hx => ?_
  have I1 : Inv X pins σ H { s with heap := h' } := I.kept (t' := s.toks) fun b o e => hx b o (Nat.ne_of_lt (Heap.lt_size e)) e
  exact h pins _ σ H xs _ Q I1 (by simpa using rv) hw
/-- o[i] = .. -/
def gSub (to ti : TE) (t : TSet) : TG := fun v σ H Q => to σ H fun o H1 => ti σ H1 fun i H2 => t o i v H2 fun H3 => Q σ H3
theorem pg_sub {o i : Expr} {to ti : TE} {t : TSet} (ho : PE X o to) (hi : PE X i ti) (hs : PSet X t)
    (ha : ∀ v, assign (.Subscript o i pos) X.env v = (do
      let ov ← holding [v] (eval o X.env)
      let iv ← holding [v, ov] (eval i X.env)
      standAt pos
      holding [v, ov, iv] (setItem ov iv v)
      release [v, ov, iv] []) := by intro _; rfl) : PG X (.Subscript o i pos) (gSub to ti t) := by
  intro pins s σ H v u Q I r h
  rw [ha]
  refine wpAny_bind (wpAny_holding (thn (ho pins s σ H _ I h) fun ov s1 ⟨x, H1, I1, r1, q1⟩ => ?_))
  refine wpAny_bind (wpAny_holding (thn (hi pins s1 σ H1 _ I1 q1) fun iv s2 ⟨y, H2, I2, r2, q2⟩ => ?_))
  refine wpAny_bind (wpAny_standAt (wpAny_bind (wpAny_holding (thn (hs pins s2 σ H2 x y v ov iv u _ I2 r1 r2 r q2) fun _ s3 ⟨H3, I3, q3⟩ => ?_))))
  exact wpAny_release ⟨σ, H3, I3, q3⟩
/-- target = value -/
def tAsg (te : TE) (g : TG) : TS := fun D σ H => te σ H fun x H1 => g x σ H1 D.nx
theorem ps_asg {tg e : Expr} {te : TE} {g : TG} (he : PE X e te) (hg : PG X tg g) (hs : swapsWithSole [tg] e pos.line X.env = pure false := by rfl) (hw : swappedStores [tg] e X.env = pure none := by rfl)
    (h1 : (assignEach [tg] X.env).map (·.2) = [assign tg X.env] := by rfl) : PS X (.Assign [tg] e pos) (tAsg te g) := by
  intro pins s σ H D I h
  refine wpAny_Assign_stores (thn (he pins s σ H _ I h) fun v s1 ⟨x, H1, I1, r1, q1⟩ => ?_) hs hw
  rw [h1]
  exact thn (hg pins s1 σ H1 x v _ I1 r1 q1) fun _ s2 q => q
/-- name = value -/
theorem ps_set {i : Nat} {x : Str} {e : Expr} {te : TE} {pos' : Pos} (hN : X.N.Nodup) (hi : X.N[i]? = some x) (hx : Loc X.env.scope x) (he : PE X e te) (hs : swapsWith e (some (.Name x pos')) pos.line X.env = pure false := by rfl) (hf : X.fn x = true ∨ X.env.scope.names.lookup x = some .local := by first | exact .inl rfl | exact .inr rfl | assumption) :
    PS X (.Assign [.Name x pos'] e pos) (tAsg te (gName i)) := by
  intro pins s σ H D I h
  refine wpAny_Assign_Name (thn (he pins s σ H _ I h) fun v s1 ⟨y, H1, I1, r1, q1⟩ => ?_) hs
  exact store_ok I1 hN hi hx r1 (fun s2 I2 => ⟨_, H1, I2, q1⟩) hf
/-- name op= e -/
def tAug (i : Nat) (te : TE) (ti : TIp) : TS := fun D σ H => ∃ x, σ[i]? = some (some x) ∧ te σ H fun y H1 => ti x y H1 fun z H2 => D.nx (σ.set i (some z)) H2
theorem ps_aug {i : Nat} {x : Str} {e : Expr} {te : TE} {op : Operator} {ti : TIp} {pos' : Pos} (hN : X.N.Nodup) (hi : X.N[i]? = some x) (hx : Loc X.env.scope x) (he : PE X e te) (ho : PIp X op ti) (hf : X.fn x = true ∨ X.env.scope.names.lookup x = some .local := by first | exact .inl rfl | exact .inr rfl | assumption) :
    PS X (.AugAssign (.Name x pos') op e pos) (tAug i te ti) := by
  intro pins s σ H D I h
  obtain ⟨v, e1, h⟩ := h
  obtain ⟨m, hn, hl⟩ := I.loc
  have vis : Vis X.env.scope x := by rcases hx with k | k; exact .inl k; exact .inr (.inl k)
  obtain ⟨u, r, l⟩ := hl i x v hi e1 vis
  refine wpAny_AugAssign_Name ?_
  have go : wpAny (model X.prog X.w) X.A (eval e X.env) (fun w s₂ => wpAny (model X.prog X.w) X.A (inplaceOp op u w) (fun r s₃ => wpAny (model X.prog X.w) X.A (storeName X.env x r) (fun _ => SP X pins D .next) X.xe s₃) X.xe s₂) X.xe s := by
    refine thn (he pins s σ H _ I h) fun w s1 ⟨y, H1, I1, r1, q1⟩ => ?_
    refine thn (ho pins s1 σ H1 v y u w _ I1 r r1 q1) fun z s2 ⟨zv, H2, I2, r2, q2⟩ => ?_
    exact store_ok I2 hN hi hx r2 (fun s3 I3 => ⟨_, H2, I3, q2⟩) hf
  rcases l with ⟨hk, hm⟩ | ⟨hk, c, hc, hcell⟩
  · exact wpAny_loadName_local I.ok.kind hk hn hm go
  · rcases hk with hk | hk
    · exact wpAny_loadName_cell I.ok.kind hk hc hcell go
    · rcases hx with k | k
      · have : X.env.scope.names.lookup x = some .free := hk
        rw [k] at this; cases this
      · have : X.env.scope.names.lookup x = some .free := hk
        rw [k] at this; cases this
/-- ints -/
def ipI (f : Int → Int → Int) : TIp := fun x y H Q => ∃ i j, x = .int i ∧ y = .int j ∧ Q (.int (f i j)) H
theorem ip_add : PIp X .Add (ipI fun i j => i + j) := by
  intro pins s σ H x y v u Q I r1 r2 h
  obtain ⟨i, j, e1, e2, q⟩ := h
  subst e1; subst e2
  obtain ⟨t, rfl⟩ := r1
  obtain ⟨t', rfl⟩ := r2
  exact iadd_int ⟨.int _, H, I.tok _, ⟨_, rfl⟩, q⟩
end

/-! ### while -/
section
variable {X : Cx} {pos : Pos}
/-- the invariant W with its measure -/
def tWhile (c : TT) (tb : TS) : TS := fun D σ H => ∃ W : Nat → St → Hp → Prop, (∃ m, W m σ H) ∧ ∀ m σ H, W m σ H →
  c σ H fun b H1 => if b = true then ∃ N : St → Hp → Prop, (∀ σ' H', N σ' H' → ∃ m', m' < m ∧ W m' σ' H') ∧ tb { D with nx := N, ct := N, bk := D.nx } σ H1 else D.nx σ H1
theorem ps_while {c : Expr} {body : List Stmt} {tc : TT} {tb : TS} (hp : PassesOwn (model X.prog X.w) X.A X.env X.xe) (hc : PT X c tc) (hb : PSs X body tb) : PS X (.While c body [] pos) (tWhile tc tb) := by
  intro pins s σ H D I h
  obtain ⟨W, ⟨m0, w0⟩, turn⟩ := h
  refine wpAny_While (codeAny_whileLoop (fun n s' => ∃ σ' H', Inv X pins σ' H' s' ∧ W n σ' H') ?_ m0 ⟨σ, H, I, w0⟩)
  rintro n s1 ⟨σ1, H1, I1, w1⟩
  refine wpAny_passesOwn hp (thn (hc pins s1 σ1 H1 _ I1 (turn n σ1 H1 w1)) fun b s2 ⟨H2, I2, q2⟩ => ?_)
  cases b with
  | true =>
    obtain ⟨N, hN, q2⟩ := q2
    rw [if_pos rfl]
    refine wpAny_passesOwn hp (thn (hb pins s2 σ1 H2 _ I2 q2) fun f s3 q3 => ?_)
    cases f with
    | next =>
      obtain ⟨σ3, H3, I3, n3⟩ := q3
      obtain ⟨m', hm, w3⟩ := hN σ3 H3 n3
      exact ⟨m', hm, σ3, H3, I3, w3⟩
    | cont =>
      obtain ⟨σ3, H3, I3, n3⟩ := q3
      obtain ⟨m', hm, w3⟩ := hN σ3 H3 n3
      exact ⟨m', hm, σ3, H3, I3, w3⟩
    | brk => exact q3
    | ret v => exact q3
  | false =>
    rw [if_neg Bool.false_ne_true]
    exact wpAny_execs_nil ⟨σ1, H2, I2, q2⟩
end

/-! ### what a loop or a comprehension walks -/
/-- at turn i: it yields x (the heap may grow), or it stops -/
structure It where
  go : Nat → Hp → Prop
  yld : Nat → Hp → V → Hp → Prop
  stop : Nat → Hp → Prop
/-- the iterator's own objects may turn: they are not the frame's, not pinned, younger than the entry (or a comprehension's own) -/
def FpOk (X : Cx) (pins : List (Addr × Obj)) (H : Hp) (b : Addr) : Prop :=
  H b = none ∧ b ≠ X.env.locals ∧ b ∉ X.fs ∧ (b ∈ X.ex ∨ X.s₀.heap.objs.size ≤ b) ∧ (∀ x c, X.env.cells.lookup x = some c → c ≠ b) ∧ ∀ p ∈ X.pn ++ pins, p.1 ≠ b
theorem Inv.fpOk {X : Cx} {pins : List (Addr × Obj)} {σ : St} {H H' : Hp} {s : Shared} {b : Addr} (I : Inv X pins σ H s) (hb : s.heap.objs.size ≤ b) (hn : H' b = none) : FpOk X pins H' b := by
  refine ⟨hn, Nat.ne_of_gt (Nat.lt_of_lt_of_le I.lt hb), I.nofs hb, .inr (Nat.le_trans I.sz hb), fun x c e z => ?_, fun p hp z => ?_⟩
  · obtain ⟨v, q⟩ := I.cell x c e
    exact absurd (Nat.lt_of_lt_of_le q.lt (by rw [z]; exact hb)) (Nat.lt_irrefl _)
  · exact absurd (Nat.lt_of_lt_of_le (Heap.lt_size (I.pin p hp).1) (by rw [z]; exact hb)) (Nat.lt_irrefl _)
structure Turn (P : Program) (w : World) (K : PySem.W.Frag) (tg : Expr) (J : It) (fp : List Addr) (it : Addr) (tn : Nat → Heap → Prop) : Prop where
  mem : it ∈ fp
  obj : ∀ i h, tn i h → ∀ b ∈ fp, ∃ o, h.get? b = some o ∧ ∀ v, o.data ≠ .cell v
  keep : ∀ i h h', tn i h → (∀ b ∈ fp, ∀ o, h.get? b = some o → h'.get? b = some o) → tn i h'
  item : ∀ (X : Cx), X.prog = P → X.w = w → X.K = K → X.calm = true → ∀ (i : Nat) (pins : List (Addr × Obj)) (s : Shared) (σ : St) (H : Hp) (E : Value → Shared → Prop), Inv X pins σ H s → (∀ b ∈ fp, FpOk X pins H b) → tn i s.heap → J.go i H →
    wpAny (model P w) X.A (pyNext (.ref it)) (fun r s1 => ∃ u, r = some u ∧
      wpAny (model P w) X.A (letOwnedTupleGo tg (.ref it) u) (fun _ s2 => ∃ x H', Inv X pins σ H' s2 ∧ RelV x u ∧ J.yld i H x H' ∧ tn (i + 1) s2.heap ∧ ∀ b ∈ fp, H' b = none) E s1) E s
  done : ∀ (X : Cx), X.prog = P → X.w = w → X.K = K → X.calm = true → ∀ (i : Nat) (pins : List (Addr × Obj)) (s : Shared) (σ : St) (H : Hp) (E : Value → Shared → Prop), Inv X pins σ H s → (∀ b ∈ fp, FpOk X pins H b) → tn i s.heap → J.stop i H →
    wpAny (model P w) X.A (pyNext (.ref it)) (fun r s1 => r = none ∧ Inv X pins σ H s1) E s
  self : ∀ (A : Around) (i : Nat) (s : Shared) (Q : Value → Shared → Prop) (E : Value → Shared → Prop), tn i s.heap → Q (.ref it) s → wpAny (model P w) A (pyIter (.ref it)) Q E s
abbrev TI := St → Hp → (It → Hp → Prop) → Prop
/-- an iterator has come -/
def PIE (X : Cx) (pins : List (Addr × Obj)) (σ : St) (tg : Expr) (R : It → Hp → Prop) (itv : Value) (s2 : Shared) : Prop :=
  ∃ (it : Addr) (fp : List Addr) (tn : Nat → Heap → Prop) (J : It) (H' : Hp), itv = .ref it ∧ Inv X pins σ H' s2 ∧ Turn X.prog X.w X.K tg J fp it tn ∧ tn 0 s2.heap ∧ (∀ b ∈ fp, FpOk X pins H' b) ∧ R J H'
def PI (X : Cx) (tg iter : Expr) (wi : TI) : Prop :=
  ∀ (pins : List (Addr × Obj)) (s : Shared) (σ : St) (H : Hp) (R : It → Hp → Prop), Inv X pins σ H s → wi σ H R →
    wpAny (model X.prog X.w) X.A (eval iter X.env) (fun v s1 => wpAny (model X.prog X.w) X.A (pyIter v) (PIE X pins σ tg R) X.xe s1) X.xe s

/-- the step ahead of the store is nothing for an iterator that keeps no tuple -/
theorem go_of {M : Model} {A : Around} {E : Value → Shared → Prop} {s : Shared} {tg : Expr} {it : Addr} {u : Value} {o : Obj} {n : String} {vs : Array Value} {Q : Unit → Shared → Prop} (ho : s.heap.get? it = some o) (hc : o.cls = .type n) (hd : o.data = .fields vs)
    (hn : ["enumerate", "zip", "dict_itemiterator", "dict_reverseitemiterator", "odict_iterator", "itertools.zip_longest", "itertools.pairwise"].contains n = false) (hQ : Q () s) : wpAny M A (letOwnedTupleGo tg (.ref it) u) Q E s := by
  unfold letOwnedTupleGo
  cases tg <;> first
    | exact wpAny_pure hQ
    | (cases u <;> first
        | exact wpAny_pure hQ
        | (refine wpAny_bind (wpAny_load ho ?_)
           rw [hc, hd]
           show wpAny M A (if (["enumerate", "zip", "dict_itemiterator", "dict_reverseitemiterator", "odict_iterator", "itertools.zip_longest", "itertools.pairwise"].contains n && vs[0]? == some (rawInt _)) = true then _ else _) Q E s
           rw [if_neg (by intro h; rw [hn, Bool.false_and] at h; cases h)]
           exact wpAny_pure hQ))

/-- the list at a, as it stands at each turn (a loop may append to it) -/
def Itl (K : PySem.W.Frag) (a : Addr) : It :=
  ⟨fun i H => ∃ xs x, SqL K H a xs ∧ xs[i]? = some x, fun i H x H' => H' = H ∧ ∀ xs, SqL K H a xs → xs[i]? = some x, fun i H => ∃ xs, SqL K H a xs ∧ xs.length ≤ i⟩
def Itt (K : PySem.W.Frag) (a : Addr) : It :=
  ⟨fun i H => ∃ xs x, SqT K H a xs ∧ xs[i]? = some x, fun i H x H' => H' = H ∧ ∀ xs, SqT K H a xs → xs[i]? = some x, fun i H => ∃ xs, SqT K H a xs ∧ xs.length ≤ i⟩
/-- lo, lo + 1, .. (n of them) -/
def Itr (lo : Int) (n : Nat) : It := ⟨fun i _ => i < n, fun i H x H' => H' = H ∧ x = .int (lo + i), fun i _ => n ≤ i⟩
theorem turn_list {P : Program} {w : World} {K : PySem.W.Frag} {tg : Expr} (a it : Addr) : Turn P w K tg (Itl K a) [it] it (fun i h => h.IsListIter it a i) where
  mem := by simp
  obj := fun i h st b hb => by
    have e : b = it := by simpa using hb
    subst e
    obtain ⟨o, e, c, d⟩ := st
    exact ⟨o, e, fun v z => by rw [d] at z; cases z⟩
  keep := fun i h h' st k => st.at fun o e => k it (by simp) o e
  item := by
    intro X hP hw hK hc i pins s σ H E I hf st hg
    subst hP hw hK
    obtain ⟨xs, x, hq, hx⟩ := hg
    obtain ⟨its, rv, p, hz⟩ := I.list hq
    obtain ⟨u, hu, ru⟩ := rv.get hx
    obtain ⟨f0, f1, f2, f3, f4, f5⟩ := hf it (by simp)
    refine wpAny_pyNext_list_item st p.isList (x := u) (by simpa using hu) fun h' st' sb => ?_
    have I1 : Inv X pins σ H { s with heap := h' } := I.turned (t' := s.toks) (fun b o hb e => (sb.2 b hb).trans e) f0 f1 f3 f4 f5
    obtain ⟨o, e, c, d⟩ := id st'
    exact ⟨u, rfl, go_of (s := { s with heap := h' }) e c d (by decide) ⟨x, H, I1, ru, ⟨rfl, fun ys hy => by rw [I.list_inj hy hq]; exact hx⟩, st', fun b hb => (hf b hb).1⟩⟩
  done := by
    intro X hP hw hK hc i pins s σ H E I hf st hg
    subst hP hw hK
    obtain ⟨xs, hq, hx⟩ := hg
    obtain ⟨its, rv, p, hz⟩ := I.list hq
    obtain ⟨f0, f1, f2, f3, f4, f5⟩ := hf it (by simp)
    have hl := rv.length
    exact wpAny_pyNext_list_end (I.ok.hd hc) st p.isList (by simp; omega) fun h' eb => ⟨rfl, I.turned (t' := s.toks) (fun b o hb e => eb b o hb e) f0 f1 f3 f4 f5⟩
  self := fun _ _ _ _ _ st h => wpAny_pyIter_listiter st h
theorem turn_tuple {P : Program} {w : World} {K : PySem.W.Frag} {tg : Expr} (a it : Addr) : Turn P w K tg (Itt K a) [it] it (fun i h => h.IsTupleIter it a i) where
  mem := by simp
  obj := fun i h st b hb => by
    have e : b = it := by simpa using hb
    subst e
    obtain ⟨o, e, c, d⟩ := st
    exact ⟨o, e, fun v z => by rw [d] at z; cases z⟩
  keep := fun i h h' st k => st.at fun o e => k it (by simp) o e
  item := by
    intro X hP hw hK hc i pins s σ H E I hf st hg
    subst hP hw hK
    obtain ⟨xs, x, hq, hx⟩ := hg
    obtain ⟨its, rv, p, hz⟩ := I.tuple hq
    obtain ⟨u, hu, ru⟩ := rv.get hx
    obtain ⟨f0, f1, f2, f3, f4, f5⟩ := hf it (by simp)
    refine wpAny_pyNext_tuple_item st (show s.heap.IsTuple a its.toArray from p) (x := u) (by simpa using hu) fun h' st' sb => ?_
    have I1 : Inv X pins σ H { s with heap := h' } := I.turned (t' := s.toks) (fun b o hb e => (sb.2 b hb).trans e) f0 f1 f3 f4 f5
    obtain ⟨o, e, c, d⟩ := id st'
    exact ⟨u, rfl, go_of (s := { s with heap := h' }) e c d (by decide) ⟨x, H, I1, ru, ⟨rfl, fun ys hy => by rw [I.tuple_inj hy hq]; exact hx⟩, st', fun b hb => (hf b hb).1⟩⟩
  done := by
    intro X hP hw hK hc i pins s σ H E I hf st hg
    subst hP hw hK
    obtain ⟨xs, hq, hx⟩ := hg
    obtain ⟨its, rv, p, hz⟩ := I.tuple hq
    obtain ⟨f0, f1, f2, f3, f4, f5⟩ := hf it (by simp)
    have hl := rv.length
    exact wpAny_pyNext_tuple_end (I.ok.hd hc) st (show s.heap.IsTuple a its.toArray from p) (by simp; omega) fun h' eb => ⟨rfl, I.turned (t' := s.toks) (fun b o hb e => eb b o hb e) f0 f1 f3 f4 f5⟩
  self := fun _ _ _ _ _ st h => wpAny_pyIter_tupleiter st h
theorem turn_range {P : Program} {w : World} {K : PySem.W.Frag} {tg : Expr} (it : Addr) (lo : Int) (n : Nat) : Turn P w K tg (Itr lo n) [it] it (fun i h => IsRangeIter h it (lo + (i : Nat) * 1) ((n : Int) - (i : Nat)) 1) where
  mem := by simp
  obj := fun i h st b hb => by
    have e : b = it := by simpa using hb
    subst e
    exact ⟨_, st, fun v z => by
      have z' : Data.fields _ = Data.cell v := z
      cases z'⟩
  keep := fun i h h' st k => k it (by simp) _ st
  item := by
    intro X hP hw hK hc i pins s σ H E I hf st hg
    subst hP hw hK
    obtain ⟨f0, f1, f2, f3, f4, f5⟩ := hf it (by simp)
    have W := Walks.range (prog := X.prog) (w := X.w) (I.ok.hd hc) it lo 1 n
    refine W.item i s _ _ hg st fun v h' tk hv st' kk => ?_
    obtain ⟨t, rfl⟩ := hv
    have I1 : Inv X pins σ H { s with heap := h', toks := tk } := I.turned (fun b o hb e => kk b o (by simpa using hb) e) f0 f1 f3 f4 f5
    refine ⟨_, rfl, go_of (s := { s with heap := h', toks := tk }) (n := "range_iterator") st' rfl rfl (by decide) ⟨.int (lo + i), H, I1, ⟨t, ?_⟩, ⟨rfl, rfl⟩, st', fun b hb => (hf b hb).1⟩⟩
    rw [Int.mul_one]
  done := by
    intro X hP hw hK hc i pins s σ H E I hf st hg
    subst hP hw hK
    obtain ⟨f0, f1, f2, f3, f4, f5⟩ := hf it (by simp)
    exact wpAny_pyNext_range_end (I.ok.hd hc) st (by have : n ≤ i := hg; omega) fun h' eb => ⟨rfl, I.turned (t' := s.toks) (fun b o hb e => eb b o hb e) f0 f1 f3 f4 f5⟩
  self := fun _ _ _ _ _ st h => wpAny_pyIter_rangeiter st h
end L2

namespace L2
open PySem PySem.Spec PyProof.Rows
section
variable {X : Cx} {tg : Expr}
def iList (K : PySem.W.Frag) (tl : TE) : TI := fun σ H R => tl σ H fun x H1 => ∃ a, x = .ref a ∧ (∃ xs, SqL K H1 a xs) ∧ R (Itl K a) H1
def iTup (K : PySem.W.Frag) (tl : TE) : TI := fun σ H R => tl σ H fun x H1 => ∃ a, x = .ref a ∧ (∃ xs, SqT K H1 a xs) ∧ R (Itt K a) H1
theorem pi_list {l : Expr} {tl : TE} (hl : PE X l tl) : PI X tg l (iList X.K tl) := by
  intro pins s σ H R I h
  refine thn (hl pins s σ H _ I h) fun v s1 ⟨x, H1, I1, r1, q1⟩ => ?_
  obtain ⟨a, e, ⟨xs, hq⟩, q⟩ := q1
  subst e
  cases r1
  obtain ⟨its, rv, p, hz⟩ := I1.list hq
  refine wpAny_pyIter_list p.isList ?_
  refine ⟨s1.heap.objs.size, [s1.heap.objs.size], _, _, H1, rfl, I1.kept (t' := s1.toks) fun b o e => Heap.get?_push_of_some _ e, turn_list a _, ⟨_, Heap.get?_push_size _ rfl, rfl, rfl⟩, fun b hb => ?_, q⟩
  have e : b = s1.heap.objs.size := by simpa using hb
  subst e
  exact I1.fpOk (Nat.le_refl _) (I1.hok.fresh (Nat.le_refl _))
theorem pi_tup {l : Expr} {tl : TE} (hl : PE X l tl) : PI X tg l (iTup X.K tl) := by
  intro pins s σ H R I h
  refine thn (hl pins s σ H _ I h) fun v s1 ⟨x, H1, I1, r1, q1⟩ => ?_
  obtain ⟨a, e, ⟨xs, hq⟩, q⟩ := q1
  subst e
  cases r1
  obtain ⟨its, rv, p, hz⟩ := I1.tuple hq
  refine wpAny_pyIter_tuple (show s1.heap.IsTuple a its.toArray from p) ?_
  refine ⟨s1.heap.objs.size, [s1.heap.objs.size], _, _, H1, rfl, I1.kept (t' := s1.toks) fun b o e => Heap.get?_push_of_some _ e, turn_tuple a _, ⟨_, Heap.get?_push_size _ rfl, rfl, rfl⟩, fun b hb => ?_, q⟩
  have e : b = s1.heap.objs.size := by simpa using hb
  subst e
  exact I1.fpOk (Nat.le_refl _) (I1.hok.fresh (Nat.le_refl _))
/-- a range object just made, walked -/
theorem range_it {pins : List (Addr × Obj)} {σ : St} {H : Hp} {s : Shared} {R : It → Hp → Prop} {E : Value → Shared → Prop} {lo hi : Int} {t u v : Tok} {tk : Nat} (I : Inv X pins σ H s) (h1 : -(2 ^ 62) ≤ lo) (h2 : lo < 2 ^ 62) (h3 : -(2 ^ 62) ≤ hi) (h4 : hi < 2 ^ 62)
    (q : R (Itr lo (hi - lo).toNat) H) : wpAny (model X.prog X.w) X.A (pyIter (.ref s.heap.objs.size)) (PIE X pins σ tg R) E { s with heap := s.heap.push { cls := .type "range", data := .fields #[.int lo t, .int hi u, .int 1 v] }, toks := tk } := by
  refine wpAny_pyIter_range (IsRange.new ..) (small_one h1 h2 h3 h4) ?_
  have I1 : Inv X pins σ H { s with heap := s.heap.push { cls := .type "range", data := .fields #[.int lo t, .int hi u, .int 1 v] }, toks := tk } := I.kept fun b o e => Heap.get?_push_of_some _ e
  refine ⟨(s.heap.push { cls := .type "range", data := .fields #[.int lo t, .int hi u, .int 1 v] }).objs.size, [(s.heap.push { cls := .type "range", data := .fields #[.int lo t, .int hi u, .int 1 v] }).objs.size], _, _, H, rfl,
    I1.kept (t' := tk) fun b o e => Heap.get?_push_of_some _ e, turn_range _ lo (hi - lo).toNat, ?_, fun b hb => ?_, q⟩
  · have e1 : lo + ((0 : Nat) : Int) * 1 = lo := by simp
    have e2 : (((hi - lo).toNat : Nat) : Int) - ((0 : Nat) : Int) = Builtin.Range.rangeSize lo hi 1 := by rw [rangeSize_one]; split <;> omega
    show IsRangeIter _ _ (lo + ((0 : Nat) : Int) * 1) ((((hi - lo).toNat : Nat) : Int) - ((0 : Nat) : Int)) 1
    rw [e1, e2]
    exact Heap.get?_push_size _ rfl
  · have e : b = (s.heap.push { cls := .type "range", data := .fields #[.int lo t, .int hi u, .int 1 v] }).objs.size := by simpa using hb
    subst e
    exact I1.fpOk (Nat.le_refl _) (I1.hok.fresh (Nat.le_refl _))
def iRng1 (ta : TA) : TI := fun σ H R => ta σ H fun vs H1 => ∃ j : Int, vs = [.int j] ∧ -(2 ^ 62) ≤ j ∧ j < 2 ^ 62 ∧ R (Itr 0 j.toNat) H1
theorem pi_range1 {a : Expr} {ta : TA} {p pos : Pos} (hg : Gl X "range") (hm : X.mg "range" = none) (ha : PA X [a] ta) (hs : starEach [a] X.env = [(false, eval a X.env)] := by rfl) : PI X tg (.Call (.Name "range" p) [a] [] pos) (iRng1 ta) := by
  intro pins s σ H R I h
  refine Call_ (ld_blt I hg hm boot_range (PyProof.Rows.callWith_type1 (thn (ha pos pins s σ H _ I h) fun us s1 ⟨vs, H1, I1, r1, q1⟩ => ?_) hs rfl))
  obtain ⟨j, e, q1, q2, q⟩ := q1
  subst e
  cases r1 with
  | cons r rr =>
    cases rr
    obtain ⟨t, rfl⟩ := r
    exact call_range_1 (range_it I1 (by omega) (by omega) q1 q2 (by simpa using q))

/-! ### for -/
/-- W: the invariant by the turn and a measure; N: what the body is to reach -/
def tFor (wi : TI) (g : TG) (tb : TS) : TS := fun D σ H => wi σ H fun J H1 => ∃ W : Nat → Nat → St → Hp → Prop, (∃ m, W 0 m σ H1) ∧ ∀ i m σ H, W i m σ H →
  (J.stop i H ∧ D.nx σ H) ∨ (J.go i H ∧ ∃ N : St → Hp → Prop, (∀ σ' H', N σ' H' → ∃ m', m' < m ∧ W (i + 1) m' σ' H') ∧ ∀ x H', J.yld i H x H' → g x σ H' fun σ2 H2 => tb { D with nx := N, ct := N, bk := D.nx } σ2 H2)
/-- the records at fp as they stand -/
def pinsAt (fp : List Addr) (h : Heap) : List (Addr × Obj) := fp.filterMap fun b => (h.get? b).map fun o => (b, o)
theorem mem_pinsAt {fp : List Addr} {h : Heap} {b : Addr} {o : Obj} (hb : b ∈ fp) (e : h.get? b = some o) : (b, o) ∈ pinsAt fp h := List.mem_filterMap.mpr ⟨b, hb, by rw [e]; rfl⟩
theorem of_pinsAt {fp : List Addr} {h : Heap} {p : Addr × Obj} (hp : p ∈ pinsAt fp h) : p.1 ∈ fp ∧ h.get? p.1 = some p.2 := by
  obtain ⟨b, hb, e⟩ := List.mem_filterMap.mp hp
  cases q : h.get? b with
  | none => rw [q] at e; cases e
  | some o =>
    rw [q] at e
    have e' : (b, o) = p := Option.some.inj e
    subst e'
    exact ⟨hb, q⟩
theorem Inv.pinned {pins : List (Addr × Obj)} {σ : St} {H : Hp} {s : Shared} {fp : List Addr} (I : Inv X pins σ H s) (hf : ∀ b ∈ fp, FpOk X pins H b) (ho : ∀ b ∈ fp, ∃ o, s.heap.get? b = some o ∧ ∀ v, o.data ≠ .cell v) : Inv X (pins ++ pinsAt fp s.heap) σ H s :=
  I.pins_of fun p hp => (List.mem_append.mp hp).elim (fun z => I.pin p (List.mem_append_right _ z)) fun z => by
    obtain ⟨hb, e⟩ := of_pinsAt z
    obtain ⟨f0, f1, f2, _⟩ := hf p.1 hb
    obtain ⟨o, e', d⟩ := ho p.1 hb
    rw [e] at e'; cases e'
    exact ⟨e, f0, f1, f2, d⟩
theorem Inv.unpinned {pins pl : List (Addr × Obj)} {σ : St} {H : Hp} {s : Shared} (I : Inv X (pins ++ pl) σ H s) : Inv X pins σ H s := I.pins_of fun p hp => I.pin p (List.mem_append_right _ (List.mem_append_left _ hp))
theorem ps_for {iter : Expr} {body : List Stmt} {wi : TI} {g : TG} {tb : TS} {pos : Pos} (hp : PassesOwn (model X.prog X.w) X.A X.env X.xe) (hc : X.calm = true) (hi : PI X tg iter wi) (hg : PG X tg g) (hb : PSs X body tb)
    (hs : ∀ x, foldedSetIterable iter X.env x = pure x := by intro _; rfl) : PS X (.For tg iter body [] pos) (tFor wi g tb) := by
  intro pins s σ H D I h
  refine wpAny_For (thn (hi pins s σ H _ I h) fun v s1 h1 => thn h1 fun itv s2 h2 => ?_) hs
  obtain ⟨it, fp, tn, J, H2, e, I2, T, st2, f2, W, ⟨m0, w0⟩, turn⟩ := h2
  subst e
  -- what stays true of the iterator's objects through the loop
  have stat : ∀ {H' : Hp}, (∀ b ∈ fp, H' b = none) → ∀ b ∈ fp, FpOk X pins H' b := fun hn b hb => ⟨hn b hb, (f2 b hb).2⟩
  refine codeAny_forLoop_any (fun n s' => ∃ i σ' H', Inv X pins σ' H' s' ∧ tn i s'.heap ∧ (∀ b ∈ fp, H' b = none) ∧ W i n σ' H') ?_ m0 ⟨0, σ, H2, I2, st2, fun b hb => (f2 b hb).1, w0⟩
  rintro n s3 ⟨i, σ3, H3, I3, st3, fr3, w3⟩
  rcases turn i n σ3 H3 w3 with ⟨stop, qn⟩ | ⟨go, N, hN, step⟩
  · refine wpAny_passesOwn hp (thn (T.done X rfl rfl rfl hc i pins s3 σ3 H3 X.xe I3 (stat fr3) st3 stop) fun r s4 ⟨hr, I4⟩ => ?_)
    subst hr
    exact wpAny_execs_nil ⟨σ3, H3, I4, qn⟩
  · refine wpAny_passesOwn hp (thn (T.item X rfl rfl rfl hc i pins s3 σ3 H3 X.xe I3 (stat fr3) st3 go) fun r s4 ⟨u, hr, h4⟩ => ?_)
    subst hr
    refine wpAny_passesOwn hp (thn h4 fun _ s5 ⟨x, H5, I5, r5, y5, st5, fr5⟩ => ?_)
    have I5' := I5.pinned (stat fr5) (T.obj _ _ st5)
    refine wpAny_passesOwn hp (thn (hg _ s5 σ3 H5 x u _ I5' r5 (step x H5 y5)) fun _ s6 ⟨σ6, H6, I6, q6⟩ => ?_)
    refine wpAny_passesOwn hp (thn (hb _ s6 σ6 H6 _ I6 q6) fun f s7 q7 => ?_)
    have again : ∀ {σ7 : St} {H7 : Hp}, Inv X (pins ++ pinsAt fp s5.heap) σ7 H7 s7 → N σ7 H7 → ∃ m, m < n ∧ ∃ i σ' H', Inv X pins σ' H' s7 ∧ tn i s7.heap ∧ (∀ b ∈ fp, H' b = none) ∧ W i m σ' H' := fun {σ7 H7} I7 n7 => by
      obtain ⟨m', hm, w7⟩ := hN σ7 H7 n7
      refine ⟨m', hm, i + 1, σ7, H7, I7.unpinned, T.keep _ _ _ st5 fun b hb o e => (I7.pin (b, o) (List.mem_append_right _ (List.mem_append_right _ (mem_pinsAt hb e)))).1, fun b hb => ?_, w7⟩
      obtain ⟨o, e, d⟩ := T.obj _ _ st5 b hb
      exact (I7.pin (b, o) (List.mem_append_right _ (List.mem_append_right _ (mem_pinsAt hb e)))).2.1
    cases f with
    | next => obtain ⟨σ7, H7, I7, n7⟩ := q7; exact again I7 n7
    | cont => obtain ⟨σ7, H7, I7, n7⟩ := q7; exact again I7 n7
    | brk => obtain ⟨σ7, H7, I7, q7⟩ := q7; exact ⟨σ7, H7, I7.unpinned, q7⟩
    | ret v => obtain ⟨x7, σ7, H7, I7, r7, q7⟩ := q7; exact ⟨x7, σ7, H7, I7.unpinned, r7, q7⟩
end

/-! ### the forms one uses -/
/-- over a list that the body leaves as it is -/
theorem for_list {K : PySem.W.Frag} {a : Addr} {xs : List V} {g : TG} {tb : TS} {D : Ends} {σ : St} {H : Hp} (Pv : Nat → St → Hp → Prop) (h0 : Pv 0 σ H) (hl : ∀ i σ H, i ≤ xs.length → Pv i σ H → SqL K H a xs)
    (hs : ∀ i x σ H, xs[i]? = some x → Pv i σ H → g x σ H fun σ2 H2 => tb { D with nx := Pv (i + 1), ct := Pv (i + 1), bk := D.nx } σ2 H2) (hd : ∀ σ H, Pv xs.length σ H → D.nx σ H) :
    ∃ W : Nat → Nat → St → Hp → Prop, (∃ m, W 0 m σ H) ∧ ∀ i m σ H, W i m σ H →
      ((Itl K a).stop i H ∧ D.nx σ H) ∨ ((Itl K a).go i H ∧ ∃ N : St → Hp → Prop, (∀ σ' H', N σ' H' → ∃ m', m' < m ∧ W (i + 1) m' σ' H') ∧ ∀ x H', (Itl K a).yld i H x H' → g x σ H' fun σ2 H2 => tb { D with nx := N, ct := N, bk := D.nx } σ2 H2) := by
  refine ⟨fun i m σ H => m = xs.length - i ∧ i ≤ xs.length ∧ Pv i σ H, ⟨xs.length, by simp, Nat.zero_le _, h0⟩, ?_⟩
  rintro i m σ H ⟨rfl, hi, p⟩
  have q := hl i σ H hi p
  by_cases hlt : i < xs.length
  · refine .inr ⟨⟨xs, xs[i], q, by simp [hlt]⟩, Pv (i + 1), fun σ' H' p' => ⟨xs.length - (i + 1), by omega, rfl, hlt, p'⟩, fun x H' y => ?_⟩
    obtain ⟨e, y⟩ := y
    subst e
    exact hs i x σ _ (y xs q) p
  · have e : i = xs.length := by omega
    subst e
    exact .inl ⟨⟨xs, q, Nat.le_refl _⟩, hd σ H p⟩
/-- while, by a word and a measure of the state -/
theorem while_by {c : TT} {tb : TS} {D : Ends} {σ : St} {H : Hp} (Pv : St → Hp → Prop) (μ : St → Hp → Nat) (h0 : Pv σ H)
    (hs : ∀ σ H, Pv σ H → c σ H fun b H1 => if b = true then tb { D with nx := fun σ' H' => Pv σ' H' ∧ μ σ' H' < μ σ H, ct := fun σ' H' => Pv σ' H' ∧ μ σ' H' < μ σ H, bk := D.nx } σ H1 else D.nx σ H1)
    (mono : ∀ σ H Q Q', (∀ b H1, Q b H1 → Q' b H1) → c σ H Q → c σ H Q') : tWhile c tb D σ H := by
  refine ⟨fun m σ H => m = μ σ H ∧ Pv σ H, ⟨_, rfl, h0⟩, ?_⟩
  rintro m σ H ⟨rfl, p⟩
  refine mono σ H _ _ (fun b H1 q => ?_) (hs σ H p)
  cases b with
  | true => exact ⟨_, fun σ' H' ⟨p', l⟩ => ⟨_, l, rfl, p'⟩, q⟩
  | false => exact q
end L2

namespace L2
open PySem PySem.Spec PyProof.Rows

abbrev R2 := V → V → Hp → VK → Prop
/-- a two-place operation on values: f is binaryOp op, inplaceOp op or compareOp op -/
def OpR (X : Cx) (f : Value → Value → Sem Value) (r : R2) : Prop :=
  ∀ (pins : List (Addr × Obj)) (s : Shared) (σ : St) (H : Hp) (x y : V) (v u : Value) (Q : VK), Inv X pins σ H s → RelV x v → RelV y u → r x y H Q →
    wpAny (model X.prog X.w) X.A (f v u) (EP X pins σ Q) X.xe s
/-- a one-place operation -/
def UnR (X : Cx) (f : Value → Sem Value) (r : V → Hp → VK → Prop) : Prop :=
  ∀ (pins : List (Addr × Obj)) (s : Shared) (σ : St) (H : Hp) (x : V) (v : Value) (Q : VK), Inv X pins σ H s → RelV x v → r x H Q →
    wpAny (model X.prog X.w) X.A (f v) (EP X pins σ Q) X.xe s
/-- a call of a value that is known (a builtin, a type) with values -/
def CallR (X : Cx) (f : Value) (r : List V → Hp → VK → Prop) : Prop :=
  ∀ (pins : List (Addr × Obj)) (s : Shared) (σ : St) (H : Hp) (xs : List V) (us : List Value) (Q : VK), Inv X pins σ H s → Vals xs us → r xs H Q →
    wpAny (model X.prog X.w) X.A (call f us) (EP X pins σ Q) X.xe s

def tOp (r : R2) (ta tb : TE) : TE := fun σ H Q => ta σ H fun x H1 => tb σ H1 fun y H2 => r x y H2 Q
def tUn (r : V → Hp → VK → Prop) (ta : TE) : TE := fun σ H Q => ta σ H fun x H1 => r x H1 Q
/-- ints in, under C, and a value out -/
def rI (C : Int → Int → Prop) (g : Int → Int → V) : R2 := fun x y H Q => ∃ i j, x = .int i ∧ y = .int j ∧ C i j ∧ Q (g i j) H
def rI0 (g : Int → Int → V) : R2 := fun x y H Q => ∃ i j, x = .int i ∧ y = .int j ∧ Q (g i j) H
def rU (g : Int → V) : V → Hp → VK → Prop := fun x H Q => ∃ i, x = .int i ∧ Q (g i) H

section
variable {X : Cx} {a b c : Expr} {ta tb tc : TE} {pos : Pos}

theorem binT (ha : PE X a ta) (hb : PE X b tb) {pins : List (Addr × Obj)} {s : Shared} {σ : St} {H : Hp} {R : V → V → Hp → Prop} (I : Inv X pins σ H s)
    (h : ta σ H fun x H1 => tb σ H1 fun y H2 => R x y H2) {Q : Value → Shared → Prop} {f : Value → Value → Sem Value}
    (hf : ∀ v u s2 x y H2, Inv X pins σ H2 s2 → RelV x v → RelV y u → R x y H2 → wpAny (model X.prog X.w) X.A (f v u) Q X.xe s2) :
    wpAny (model X.prog X.w) X.A (eval a X.env) (fun v s₁ => wpAny (model X.prog X.w) X.A (eval b X.env) (fun u s₂ => wpAny (model X.prog X.w) X.A (f v u) Q X.xe s₂) X.xe s₁) X.xe s := by
  refine thn (ha pins s σ H _ I h) fun v s1 ⟨x, H1, I1, r1, q1⟩ => ?_
  refine thn (hb pins s1 σ H1 _ I1 q1) fun u s2 ⟨y, H2, I2, r2, q2⟩ => ?_
  exact hf v u s2 x y H2 I2 r1 r2 q2

theorem pe_op {op : Operator} {r : R2} (ho : OpR X (binaryOp op) r) (ha : PE X a ta) (hb : PE X b tb) : PE X (.BinOp a op b pos) (tOp r ta tb) := by
  intro pins s σ H Q I h
  exact wpAny_BinOp (binT ha hb I h fun v u s2 x y H2 I2 rx ry q => ho pins s2 σ H2 x y v u Q I2 rx ry q)
theorem pe_un {op : UnaryOp} {r : V → Hp → VK → Prop} (ho : UnR X (unaryOp op) r) (ha : PE X a ta) : PE X (.UnaryOp op a pos) (tUn r ta) := by
  intro pins s σ H Q I h
  exact UnaryOp_ (thn (ha pins s σ H _ I h) fun v s1 ⟨x, H1, I1, r1, q1⟩ => ho pins s1 σ H1 x v Q I1 r1 q1)

/-! ### ints -/
theorem opI {f : Value → Value → Sem Value} {C : Int → Int → Prop} {g : Int → Int → Int}
    (rule : ∀ (i j : Int) (t u : Tok) (s : Shared) (Q : Value → Shared → Prop) (E : Value → Shared → Prop), C i j → Q (.int (g i j) s.toks) { s with toks := s.toks + 1 } → wpAny (model X.prog X.w) X.A (f (.int i t) (.int j u)) Q E s) :
    OpR X f (rI C fun i j => .int (g i j)) := by
  intro pins s σ H x y v u Q I rx ry h
  obtain ⟨i, j, rfl, rfl, hc, q⟩ := h
  obtain ⟨t, rfl⟩ := rx
  obtain ⟨t', rfl⟩ := ry
  exact rule i j t t' s _ _ hc ⟨.int (g i j), H, I.tok _, ⟨_, rfl⟩, q⟩
theorem opI0 {f : Value → Value → Sem Value} {g : Int → Int → Int}
    (rule : ∀ (i j : Int) (t u : Tok) (s : Shared) (Q : Value → Shared → Prop) (E : Value → Shared → Prop), Q (.int (g i j) s.toks) { s with toks := s.toks + 1 } → wpAny (model X.prog X.w) X.A (f (.int i t) (.int j u)) Q E s) :
    OpR X f (rI0 fun i j => .int (g i j)) := by
  intro pins s σ H x y v u Q I rx ry h
  obtain ⟨i, j, rfl, rfl, q⟩ := h
  obtain ⟨t, rfl⟩ := rx
  obtain ⟨t', rfl⟩ := ry
  exact rule i j t t' s _ _ ⟨.int (g i j), H, I.tok _, ⟨_, rfl⟩, q⟩
theorem opB0 {f : Value → Value → Sem Value} {g : Int → Int → Bool}
    (rule : ∀ (i j : Int) (t u : Tok) (s : Shared) (Q : Value → Shared → Prop) (E : Value → Shared → Prop), Q (.bool (g i j)) s → wpAny (model X.prog X.w) X.A (f (.int i t) (.int j u)) Q E s) :
    OpR X f (rI0 fun i j => .bl (g i j)) := by
  intro pins s σ H x y v u Q I rx ry h
  obtain ⟨i, j, rfl, rfl, q⟩ := h
  obtain ⟨t, rfl⟩ := rx
  obtain ⟨t', rfl⟩ := ry
  exact rule i j t t' s _ _ ⟨.bl (g i j), H, I, rfl, q⟩

def CDiv (i j : Int) : Prop := 0 < j ∧ j < 1073741824
def CPow (i j : Int) : Prop := 0 ≤ j ∧ j ≤ 1000000 ∧ i.natAbs < 2 ^ 64
def CMul (i j : Int) : Prop := (-(2 ^ 64) < i ∧ i < 2 ^ 64) ∨ (-(2 ^ 64) < j ∧ j < 2 ^ 64)
theorem CMul.ok {i j : Int} (h : CMul i j) : IntMulOk i j := by
  rcases h with ⟨h1, h2⟩ | ⟨h1, h2⟩
  · exact .of_left (intBits_le_64 h1 h2)
  · exact .of_right (intBits_le_64 h1 h2)
theorem two_pow_nn (k : Nat) : (0 : Int) ≤ 2 ^ k := by
  rw [two_pow_cast]
  exact Int.natCast_nonneg _

theorem op_add : OpR X (binaryOp .Add) (rI0 fun i j => .int (i + j)) := opI0 fun _ _ _ _ _ _ _ q => add_int q
theorem op_sub : OpR X (binaryOp .Sub) (rI0 fun i j => .int (i - j)) := opI0 fun _ _ _ _ _ _ _ q => sub_int q
theorem op_mul : OpR X (binaryOp .Mult) (rI CMul fun i j => .int (i * j)) := opI fun _ _ _ _ _ _ _ hc q => mul_int q hc.ok
/-- // by a positive divisor -/
theorem op_fdiv : OpR X (binaryOp .FloorDiv) (rI CDiv fun i j => .int (i / j)) := opI fun i j _ _ _ _ _ hc q => by
  have h1 : (0 : Int) < j := hc.1
  have h2 : j < 1073741824 := hc.2
  exact floordiv_int (by omega) (by rw [Int.fdiv_eq_ediv_of_nonneg i (by omega)]; exact q) (.inl (PyProof.noPylong_small (by omega)))
/-- % by a positive divisor of any size -/
theorem op_mod : OpR X (binaryOp .Mod) (rI (fun _ j => 0 < j) fun i j => .int (i % j)) := opI fun i j _ _ _ _ _ hc q => by
  have h1 : (0 : Int) < j := hc
  exact mod_int' (by omega) (by rw [Int.fmod_eq_emod_of_nonneg i (by omega)]; exact q)
theorem op_shl : OpR X (binaryOp .LShift) (rI CPow fun i j => .int (i * 2 ^ j.toNat)) := opI fun _ _ _ _ _ _ _ hc q => lshift_int_small hc.1 hc.2.1 hc.2.2 q
theorem op_shr : OpR X (binaryOp .RShift) (rI (fun _ j => 0 ≤ j) fun i j => .int (i / 2 ^ j.toNat)) := opI fun i j _ _ _ _ _ hc q =>
  rshift_int hc (by rw [Int.fdiv_eq_ediv_of_nonneg i (two_pow_nn _)]; exact q)
theorem op_and : OpR X (binaryOp .BitAnd) (rI0 fun i j => .int (Builtin.bitAnd i j)) := opI0 fun _ _ _ _ _ _ _ q => and_int q
theorem op_or : OpR X (binaryOp .BitOr) (rI0 fun i j => .int (Builtin.bitOr i j)) := opI0 fun _ _ _ _ _ _ _ q => or_int q
theorem op_xor : OpR X (binaryOp .BitXor) (rI0 fun i j => .int (Builtin.bitXor i j)) := opI0 fun _ _ _ _ _ _ _ q => xor_int q


theorem unI {f : Value → Sem Value} {g : Int → Int}
    (rule : ∀ (i : Int) (t : Tok) (s : Shared) (Q : Value → Shared → Prop) (E : Value → Shared → Prop), Q (.int (g i) s.toks) { s with toks := s.toks + 1 } → wpAny (model X.prog X.w) X.A (f (.int i t)) Q E s) :
    UnR X f (rU fun i => .int (g i)) := by
  intro pins s σ H x v Q I rx h
  obtain ⟨i, rfl, q⟩ := h
  obtain ⟨t, rfl⟩ := rx
  exact rule i t s _ _ ⟨.int (g i), H, I.tok _, ⟨_, rfl⟩, q⟩
theorem un_neg : UnR X (unaryOp .USub) (rU fun i => .int (-i)) := unI fun _ _ _ _ _ q => neg_int q

/-! ### bools among ints: n += (a < b) -/
end

/-! ### comparisons -/
/-- the scalars that == tells apart as data does -/
def scal : V → V → Bool
  | .non, .non => true | .non, .int _ => true | .int _, .non => true | .non, .bl _ => true | .bl _, .non => true | .non, .str _ => true | .str _, .non => true
  | .int _, .int _ => true | .bl _, .bl _ => true | .str _, .str _ => true | .byt _, .byt _ => true
  | .int _, .str _ => true | .str _, .int _ => true | .bl _, .str _ => true | .str _, .bl _ => true
  | _, _ => false
def rEq : R2 := fun x y H Q => scal x y = true ∧ Q (.bl (decide (x = y))) H

theorem dec_int {i j : Int} : decide (V.int i = V.int j) = (i == j) := by
  rw [Bool.eq_iff_iff]
  simp
theorem dec_bl {i j : Bool} : decide (V.bl i = V.bl j) = (i == j) := by
  rw [Bool.eq_iff_iff]
  simp
theorem dec_str {i j : Str} : decide (V.str i = V.str j) = (i == j) := by
  rw [Bool.eq_iff_iff]
  simp
theorem dec_byt {i j : Array UInt8} : decide (V.byt i = V.byt j) = (i.toList == j.toList) := by
  rw [Bool.eq_iff_iff]
  cases i
  cases j
  simp

section
variable {X : Cx} {a b c : Expr} {ta tb tc : TE} {pos : Pos}
theorem fin_bl {pins : List (Addr × Obj)} {σ : St} {H : Hp} {s : Shared} {Q : VK} {k k' : Bool} (I : Inv X pins σ H s) (q : Q (.bl k) H) (e : k = k') : EP X pins σ Q (.bool k') s := by
  subst e
  exact ⟨.bl k, H, I, rfl, q⟩
theorem op_eq : OpR X (compareOp .Eq) rEq := by
  intro pins s σ H x y v u Q I rx ry h
  obtain ⟨hs, q⟩ := h
  cases x with
  | non =>
    cases rx
    cases y with
    | non => cases ry; exact PySem.EqNone.eq_none_none (fin_bl I q (by simp))
    | bl j => cases ry; exact PySem.EqNone.eq_none_bool (fin_bl I q (by simp))
    | int j => obtain ⟨t', rfl⟩ := ry; exact PySem.EqNone.eq_none_int (fin_bl I q (by simp))
    | str j => obtain ⟨t', rfl⟩ := ry; exact PySem.EqNone.eq_none_str (fin_bl I q (by simp))
    | _ => exact absurd (show false = true from hs) Bool.false_ne_true
  | bl i =>
    cases rx
    cases y with
    | non => cases ry; exact PySem.EqNone.eq_bool_none (fin_bl I q (by simp))
    | bl j => cases ry; exact eq_bool (fin_bl I q dec_bl)
    | str j => obtain ⟨t', rfl⟩ := ry; exact PySem.EqMixed.eq_bool_str (fin_bl I q (by simp))
    | _ => exact absurd (show false = true from hs) Bool.false_ne_true
  | int i =>
    obtain ⟨t, rfl⟩ := rx
    cases y with
    | non => cases ry; exact PySem.EqNone.eq_int_none (fin_bl I q (by simp))
    | int j => obtain ⟨t', rfl⟩ := ry; exact eq_int (fin_bl I q dec_int)
    | str j => obtain ⟨t', rfl⟩ := ry; exact PySem.EqMixed.eq_int_str (fin_bl I q (by simp))
    | _ => exact absurd (show false = true from hs) Bool.false_ne_true
  | str i =>
    obtain ⟨t, rfl⟩ := rx
    cases y with
    | non => cases ry; exact PySem.EqNone.eq_str_none (fin_bl I q (by simp))
    | bl j => cases ry; exact PySem.EqMixed.eq_str_bool (fin_bl I q (by simp))
    | int j => obtain ⟨t', rfl⟩ := ry; exact PySem.EqMixed.eq_str_int (fin_bl I q (by simp))
    | str j => obtain ⟨t', rfl⟩ := ry; exact eq_str (fin_bl I q dec_str)
    | _ => exact absurd (show false = true from hs) Bool.false_ne_true
  | byt i =>
    obtain ⟨t, rfl⟩ := rx
    cases y with
    | byt j => obtain ⟨t', rfl⟩ := ry; exact PySem.W.eq_bytes (fin_bl I q dec_byt)
    | _ => exact absurd (show false = true from hs) Bool.false_ne_true
  | _ => cases y <;> exact absurd (show false = true from hs) Bool.false_ne_true

theorem op_lt : OpR X (compareOp .Lt) (rI0 fun i j => .bl (decide (i < j))) := opB0 fun _ _ _ _ _ _ _ q => lt_int q
theorem op_le : OpR X (compareOp .LtE) (rI0 fun i j => .bl (decide (i ≤ j))) := opB0 fun _ _ _ _ _ _ _ q => le_int q




theorem nomark (b : Expr) {op : CmpOp} (h : op ≠ .In := by decide) (h2 : op ≠ .NotIn := by decide) : behindInMarks op b = false := by
  have e1 : (op == CmpOp.In) = false := by cases op <;> first | rfl | exact absurd rfl h
  have e2 : (op == CmpOp.NotIn) = false := by cases op <;> first | rfl | exact absurd rfl h2
  cases b <;> simp [behindInMarks, e1, e2]
/-- a comparison as a value; hm: nomark b, or (for in, not in) by with_unfolding_all rfl -/
theorem pe_cmpR {op : CmpOp} {r : R2} (ho : OpR X (compareOp op) r) (ha : PE X a ta) (hb : PE X b tb) (hm : behindInMarks op b = false) : PE X (.Compare a [op] [b] pos) (tOp r ta tb) := by
  intro pins s σ H Q I h
  exact wpAny_Compare1 (binT ha hb I h fun v u s2 x y H2 I2 rx ry q => ho pins s2 σ H2 x y v u Q I2 rx ry q) hm
/-- a reading of a value as a test -/
def tTest (t : TE) : TT := fun σ H Q => t σ H fun x H' => ∃ k, x = .bl k ∧ Q k H'
theorem pt_cmpR {op : CmpOp} {r : R2} (ho : OpR X (compareOp op) r) (ha : PE X a ta) (hb : PE X b tb) (hm : behindInMarks op b = false) : PT X (.Compare a [op] [b] pos) (tTest (tOp r ta tb)) := by
  intro pins s σ H Q I h
  refine wpAny_isTrue_Compare1 (thn (ha pins s σ H _ I h) fun v s1 ⟨x, H1, I1, r1, q1⟩ => thn (hb pins s1 σ H1 _ I1 q1) fun u s2 ⟨y, H2, I2, r2, q2⟩ =>
    thn (ho pins s2 σ H2 x y v u _ I2 r1 r2 q2) fun c s3 ⟨z, H3, I3, r3, k, e, q3⟩ => ?_) hm
  subst e
  cases r3
  exact wpAny_truthy_bool ⟨H3, I3, q3⟩
/-- a op1 b op2 c -/
def tChain (r r' : R2) (ta tb tc : TE) : TE := fun σ H Q => ta σ H fun x H1 => tb σ H1 fun y H2 => r x y H2 fun z H3 => ∃ k, z = .bl k ∧
  (if k = true then tc σ H3 fun w' H4 => r' y w' H4 Q else Q (.bl false) H3)
theorem pt_chain {op op' : CmpOp} {r r' : R2} (ho : OpR X (compareOp op) r) (ho' : OpR X (compareOp op') r') (ha : PE X a ta) (hb : PE X b tb) (hc : PE X c tc)
    (hm : lastMarks [op, op'] [b, c] = false := by with_unfolding_all rfl) : PT X (.Compare a [op, op'] [b, c] pos) (tTest (tChain r r' ta tb tc)) := by
  intro pins s σ H Q I h
  refine isTrue_chain (thn (ha pins s σ H _ I h) fun v s1 ⟨x, H1, I1, r1, q1⟩ => test_link (thn (hb pins s1 σ H1 _ I1 q1) fun u s2 ⟨y, H2, I2, r2, q2⟩ =>
    thn (ho pins s2 σ H2 x y v u _ I2 r1 r2 q2) fun d s3 ⟨z, H3, I3, r3, k, e, q3⟩ => ?_)) hm
  subst e
  cases r3
  refine wpAny_truthy_bool ?_
  cases k with
  | false =>
    obtain ⟨k', e', q'⟩ := q3
    cases e'
    exact ite_ff ⟨H3, I3, q'⟩
  | true =>
    refine ite_tt (test_last (thn (hc pins s3 σ H3 _ I3 q3) fun w' s4 ⟨z', H4, I4, r4, q4⟩ => thn (ho' pins s4 σ H4 y z' u w' _ I4 r2 r4 q4) fun d' s5 ⟨z2, H5, I5, r5, k2, e2, q5⟩ => ?_))
    subst e2
    cases r5
    exact wpAny_truthy_bool ⟨H5, I5, q5⟩

/-! ### truth -/
theorem line63 : (sizeLine : Nat) < 2 ^ 63 := by rw [sizeLine_eq]; decide

/-! ### strs and bytes -/


/-! ### scalar builtins, by CallR -/
theorem vals1 {x : V} {us : List Value} (r : Vals [x] us) : ∃ u, us = [u] ∧ RelV x u := by
  cases r with
  | cons r1 r2 => cases r2; exact ⟨_, rfl, r1⟩
theorem vals2 {x y : V} {us : List Value} (r : Vals [x, y] us) : ∃ u w', us = [u, w'] ∧ RelV x u ∧ RelV y w' := by
  cases r with
  | cons r1 r2 =>
    cases r2 with
    | cons r3 r4 => cases r4; exact ⟨_, _, rfl, r1, r3⟩
theorem call_abs : CallR X (.builtin "abs") (fun xs H Q => ∃ i, xs = [.int i] ∧ Q (.int (if i < 0 then -i else i)) H) := by
  intro pins s σ H xs us Q I r h
  obtain ⟨i, rfl, q⟩ := h
  obtain ⟨u, rfl, t, rfl⟩ := vals1 r
  exact call_abs_int fun u tk => ⟨.int (if i < 0 then -i else i), H, I.tok _, ⟨_, rfl⟩, q⟩
theorem call_max2 (hc : X.calm = true) : CallR X (.builtin "max") (fun xs H Q => ∃ i j, xs = [.int i, .int j] ∧ Q (.int (if j > i then j else i)) H) := by
  intro pins s σ H xs us Q I r h
  obtain ⟨i, j, rfl, q⟩ := h
  obtain ⟨u, w', rfl, ⟨t, rfl⟩, ⟨t', rfl⟩⟩ := vals2 r
  refine max_two_ints (I.ok.hd hc) fun h' tk k => ⟨_, H, I.kept k, ?_, q⟩
  by_cases hj : j > i
  · rw [if_pos hj, if_pos hj]; exact ⟨_, rfl⟩
  · rw [if_neg hj, if_neg hj]; exact ⟨_, rfl⟩
theorem call_min2 (hc : X.calm = true) : CallR X (.builtin "min") (fun xs H Q => ∃ i j, xs = [.int i, .int j] ∧ Q (.int (if j < i then j else i)) H) := by
  intro pins s σ H xs us Q I r h
  obtain ⟨i, j, rfl, q⟩ := h
  obtain ⟨u, w', rfl, ⟨t, rfl⟩, ⟨t', rfl⟩⟩ := vals2 r
  refine min_two_ints (I.ok.hd hc) fun h' tk k => ⟨_, H, I.kept k, ?_, q⟩
  by_cases hj : j < i
  · rw [if_pos hj, if_pos hj]; exact ⟨_, rfl⟩
  · rw [if_neg hj, if_neg hj]; exact ⟨_, rfl⟩
end
end L2

namespace L2
open PySem PySem.Spec PyProof.Rows

/-! ### an instance, its attributes a map -/
structure ObjM (h : Heap) (x dx C : Addr) (mA : Str → Option Value) : Prop where
  obj : h.get? x = some (PySem.W.instObj C dx)
  ns : h.Ns1 dx mA
  ne : dx ≠ x

theorem lookIn_ns {h : Heap} {dx : Addr} {mA : Str → Option Value} (n : h.Ns1 dx mA) : ∃ od, h.get? dx = some od ∧ ∀ name, PySem.W.lookIn name od = some (mA name) := by
  obtain ⟨o, es, ep, ho, hd, hk, _, hm⟩ := n
  refine ⟨o, ho, fun name => ?_⟩
  have e := hm name
  unfold nsFind findBy at e
  rw [← Array.find?_toList] at e
  unfold PySem.W.lookIn
  rw [hd]
  dsimp only
  split
  · rename_i y q
    rw [q] at e
    exact congrArg some e
  · rename_i q
    rw [q] at e
    have a : es.toList.any (·.refKey) = false := by
      rw [List.any_eq_false]
      intro y hy
      obtain ⟨z, t, hkey⟩ := hk y (Array.mem_toList_iff.mp hy)
      simp [DictEntry.refKey, hkey]
    have a' : ¬ es.toList.any (·.refKey) = true := by rw [a]; exact Bool.false_ne_true
    rw [if_neg a']
    exact congrArg some e

theorem ObjM.look {h : Heap} {x dx C : Addr} {mA : Str → Option Value} (I : ObjM h x dx C mA) : ∃ od, PySem.W.InstAt h x (PySem.W.instObj C dx) C (some od) ∧ ∀ name, PySem.W.lookIn name od = some (mA name) :=
  let ⟨od, ho, hl⟩ := lookIn_ns I.ns
  ⟨od, ⟨I.obj, rfl, rfl, ho⟩, hl⟩

section
variable {prog : Program} {w : World} {A : Around} {E : Value → Shared → Prop} {s : Shared} {K : PySem.W.Frag} {x dx C f : Addr} {mA : Str → Option Value} {name : Str} {v : Value}

theorem get_map {expr : Bool} {Q : Value → Shared → Prop} (X : K.In s.heap) (I : ObjM s.heap x dx C mA) (hg : PySem.W.plainGet K C name = true) (hh : PySem.W.hasDictIn K C = true)
    (ha : PySem.W.findIn K (.ref C) name = some none) (hv : mA name = some v) (hv' : PySem.W.handedIn v = true) (h : Q v { s with toks := s.toks + 1 }) :
    wpAny (model prog w) A (getAttr (.ref x) name expr) Q E s := by
  obtain ⟨od, J, hl⟩ := I.look
  exact PySem.W.get_value X J (PySem.W.plainGet_of hg).1 (PySem.W.findObj_own hh ha rfl (by rw [hl, hv])) hv' h



theorem set_map {ns : List Str} {Q : Unit → Shared → Prop} (X : K.In s.heap) (I : ObjM s.heap x dx C mA)
    (hs : PySem.W.findIn K (.ref C) "__setattr__" = some (some (.builtin "object.__setattr__"))) (hp : PySem.W.plainOver K C = true) (ht : PySem.W.takerIn K C name = some none) (hh : PySem.W.hasDictIn K C = true)
    (hw : PySem.Within mA ns) (hsz : ns.length ≤ sizeLine)
    (h : ∀ h', ObjM h' x dx C (fun y => if y = name then some v else mA y) → Heap.SameBut dx s.heap h' → Q () { s with heap := h', toks := s.toks + 2 }) :
    wpAny (model prog w) A (setAttr (.ref x) name v) Q E s := by
  obtain ⟨od, J, hl⟩ := I.look
  refine PySem.W.set_plain X J hs (PySem.W.osa_open (s := { s with toks := s.toks + 1 }) (r := none) X J hp ht fun b => ?_)
  obtain ⟨cd, hc, hd'⟩ := PySem.W.any_some hh
  have hx : s.heap.get? x = some ⟨.ref C, some dx, .plain, #[]⟩ := I.obj
  refine wpAny_bind (wpAny_pure (wpAny_bind (wpAny_bind (wpAny_loadPart hx (wpAny_bind (PySem.W.Looks.here (s := { s with toks := s.toks + 1 }) (PySem.W.looks_clsIn X hc) ?_))))))
  rw [hd']
  refine wpAny_pure (a := some dx) (wpAny_bind (wpAny_pure (wpAny_bind ?_)))
  refine wpAny_nsSet1 (s := { s with toks := s.toks + 1 }) I.ns fun h' hn2 hs2 => ?_
  obtain ⟨oD, esD, epD, hoD, hdD, hcD⟩ := hn2.count (PySem.Within.cons name v hw)
  refine wpAny_bind (wpAny_lookBehind hoD (by rw [hdD]; exact pastItsLine_dict (Nat.le_trans hcD (by rw [List.length_cons]; omega))) ?_)
  exact wpAny_pure (h _ ⟨(hs2.2 _ (Ne.symm I.ne)).trans I.obj, hn2, I.ne⟩ hs2)

/-- C(..): the dict at the heap's end, the instance behind it; then its __init__ -/
theorem make_map {R : Result → Shared → Prop} {vs : List Value} {kw : List (Str × Value)} (X : K.In s.heap) (hm : PySem.W.makesIn K C = true)
    (hi : PySem.W.findIn K (.ref C) "__init__" = some (some (.ref f))) (hf : PySem.W.typeIn K (.ref f) = some (.type "function"))
    (h : codeAny (model prog w) (A.under (.builtin "type.__call__" ⟨.ref C :: vs, kw⟩)) (.call (.ref f) ⟨.ref (s.heap.objs.size + 1) :: vs, kw⟩) (PySem.W.InitBack (s.heap.objs.size + 1) R)
      { s with heap := (s.heap.push PySem.W.emptyDict).push (PySem.W.instObj C s.heap.objs.size) }) :
    codeAny (model prog w) A (.call (.ref C) ⟨vs, kw⟩) R s := by
  obtain ⟨hh, g, d, t, os⟩ := s
  exact PySem.W.make_core (PySem.W.makes_of X hm) (PySem.W.looks_findIn X hi) (fun self => PySem.W.bind_fn X self hf) (.inl rfl) h
end

/-! ### the attributes as a list of pairs -/
def putF (f : Str) (v : V) : List (Str × V) → List (Str × V)
  | [] => [(f, v)]
  | (g, x) :: r => if g = f then (g, v) :: r else (g, x) :: putF f v r
theorem lookup_putF (f g : Str) (v : V) : ∀ fs : List (Str × V), (putF f v fs).lookup g = if g = f then some v else fs.lookup g
  | [] => by
    show List.lookup g [(f, v)] = _
    by_cases h : g = f
    · have hb : (g == f) = true := beq_iff_eq.mpr h
      simp only [List.lookup, hb, if_pos h]
    · have hb : (g == f) = false := beq_eq_false_iff_ne.mpr h
      simp only [List.lookup, hb, if_neg h]
  | (k, x) :: r => by
    have ih := lookup_putF f g v r
    rw [show putF f v ((k, x) :: r) = (if k = f then (k, v) :: r else (k, x) :: putF f v r) from rfl]
    by_cases hk : k = f
    · rw [if_pos hk]
      by_cases h : g = k
      · have hb : (g == k) = true := beq_iff_eq.mpr h
        simp only [List.lookup, hb, if_pos (h.trans hk)]
      · have hb : (g == k) = false := beq_eq_false_iff_ne.mpr h
        simp only [List.lookup, hb, if_neg (fun e : g = f => h (e.trans hk.symm))]
    · rw [if_neg hk]
      by_cases h : g = k
      · have hb : (g == k) = true := beq_iff_eq.mpr h
        simp only [List.lookup, hb, if_neg (fun e : g = f => hk (h.symm.trans e))]
      · have hb : (g == k) = false := beq_eq_false_iff_ne.mpr h
        simp only [List.lookup, hb]
        exact ih
theorem keys_putF (f : Str) (v : V) : ∀ fs : List (Str × V), f ∈ (putF f v fs).map (·.1) ∧ ∀ g, g ∈ fs.map (·.1) → g ∈ (putF f v fs).map (·.1)
  | [] => ⟨by simp [putF], fun g h => by simp at h⟩
  | (k, x) :: r => by
    obtain ⟨i1, i2⟩ := keys_putF f v r
    rw [show putF f v ((k, x) :: r) = (if k = f then (k, v) :: r else (k, x) :: putF f v r) from rfl]
    by_cases hk : k = f
    · rw [if_pos hk]
      subst hk
      exact ⟨by simp, fun g h => by simpa using h⟩
    · rw [if_neg hk]
      refine ⟨?_, fun g h => ?_⟩
      · rw [List.map_cons]
        exact List.mem_cons_of_mem _ i1
      · rw [List.map_cons] at h ⊢
        rcases List.mem_cons.mp h with e | e
        · exact List.mem_cons.mpr (.inl e)
        · exact List.mem_cons_of_mem _ (i2 g e)
theorem length_putF (f : Str) (v : V) : ∀ fs : List (Str × V), (putF f v fs).length ≤ fs.length + 1
  | [] => by simp [putF]
  | (k, x) :: r => by
    have ih := length_putF f v r
    rw [show putF f v ((k, x) :: r) = (if k = f then (k, v) :: r else (k, x) :: putF f v r) from rfl]
    by_cases hk : k = f
    · rw [if_pos hk, List.length_cons, List.length_cons]; omega
    · rw [if_neg hk, List.length_cons, List.length_cons]; omega

theorem RelO.some_of {v : V} {o : Option Value} (r : RelO (some v) o) : ∃ u, o = some u ∧ RelV v u := by
  cases o with
  | none => exact (show False from r).elim
  | some u => exact ⟨u, rfl, r⟩
theorem handed_of {v : V} {u : Value} (r : RelV v u) : PySem.W.handedIn u = true := by
  cases v with
  | non => cases (show u = Value.none from r); rfl
  | bl b => cases (show u = Value.bool b from r); rfl
  | int i => obtain ⟨t, e⟩ := (show ∃ t, u = Value.int i t from r); cases e; rfl
  | str x => obtain ⟨t, e⟩ := (show ∃ t, u = Value.str x t from r); cases e; rfl
  | byt b => obtain ⟨t, e⟩ := (show ∃ t, u = Value.bytes b t from r); cases e; rfl
  | flt b => obtain ⟨t, e⟩ := (show ∃ t, u = Value.float b t from r); cases e; rfl
  | ref a => cases (show u = Value.ref a from r); rfl
  | ty n => cases (show u = Value.type n from r); rfl

section
variable {P : Program} {w : World} {H H' : Hp} {h h' : Heap} {a C dx : Addr} {fs fs' : List (Str × V)}
theorem ins_get (hok : HOk P w H h) (e : H a = some (.ins C dx fs)) : ∃ mA, ObjM h a dx C mA ∧ (∀ f, RelO (fs.lookup f) (mA f)) ∧ PySem.Within mA (fs.map (·.1)) ∧ fs.length ≤ 1000 ∧ H dx = some (.own a) := by
  obtain ⟨d, z, ne, ob, mA, n, r, q⟩ := (show ObjOk P w H h a (.ins C dx fs) from hok a _ e)
  exact ⟨mA, ⟨ob, n, ne⟩, r, q, z, d⟩
end

/-! ### what of the text a class must have -/
structure Cls (K : PySem.W.Frag) (C : Addr) : Prop where
  pg : PySem.W.plainGet K C Str.empty = true
  hd : PySem.W.hasDictIn K C = true
  po : PySem.W.plainOver K C = true
  sa : PySem.W.findIn K (.ref C) "__setattr__" = some (some (.builtin "object.__setattr__"))
theorem Cls.get {K : PySem.W.Frag} {C : Addr} (c : Cls K C) (f : Str) : PySem.W.plainGet K C f = true := c.pg
/-- no class of it has the name -/
def NoAttr (K : PySem.W.Frag) (C : Addr) (f : Str) : Prop := PySem.W.findIn K (.ref C) f = some none
theorem NoAttr.taker {K : PySem.W.Frag} {C : Addr} {f : Str} (n : NoAttr K C f) : PySem.W.takerIn K C f = some none := by
  unfold PySem.W.takerIn
  rw [show PySem.W.findIn K (.ref C) f = some none from n]
  rfl

section
variable {X : Cx} {pins : List (Addr × Obj)} {σ : St} {H : Hp} {s : Shared} {a C dx : Addr} {fs : List (Str × V)} {f : Str} {v : V} {A : Around} {E : Value → Shared → Prop}

theorem getattr_ok {b : Bool} {Q : Value → Shared → Prop} (I : Inv X pins σ H s) (e : H a = some (.ins C dx fs)) (c : Cls X.K C) (n : NoAttr X.K C f) (l : fs.lookup f = some v)
    (h : ∀ u s', Inv X pins σ H s' → RelV v u → Q u s') : wpAny (model X.prog X.w) A (getAttr (.ref a) f b) Q E s := by
  obtain ⟨mA, O, r, _, _, _⟩ := ins_get I.hok e
  obtain ⟨u, hu, ru⟩ := RelO.some_of (v := v) (o := mA f) (by rw [← l]; exact r f)
  exact get_map I.kIn O (c.get f) c.hd n hu (handed_of ru) (h u _ (I.tok _) ru)



theorem setattr_ok {y : V} {u : Value} {Q : Unit → Shared → Prop} (I : Inv X pins σ H s) (e : H a = some (.ins C dx fs)) (c : Cls X.K C) (n : NoAttr X.K C f) (hl : fs.length < 1000) (ry : RelV y u)
    (h : ∀ s', Inv X pins σ (upd H a (.ins C dx (putF f y fs))) s' → Q () s') : wpAny (model X.prog X.w) A (setAttr (.ref a) f u) Q E s := by
  obtain ⟨mA, O, r, wi, _, ho⟩ := ins_get I.hok e
  have hz : (fs.map (·.1)).length ≤ sizeLine := by rw [List.length_map, sizeLine_eq]; omega
  refine set_map I.kIn O c.sa c.po n.taker c.hd wi hz fun h' O' sb => h _ ?_
  have hd : ∃ o, h'.get? dx = some o := let ⟨o, _, _, e', _⟩ := O'.ns; ⟨o, e'⟩
  refine I.write (x := a) (e := dx) (by rw [e]; exact True.intro) (.inr ho) (fun b q hb z => (sb.2 b hb).trans z) hd ?_
  refine ⟨by rw [upd_ne O.ne]; exact ho, ?_, O.ne, O'.obj, _, O'.ns, fun g => ?_, fun g hg => ?_⟩
  · have := length_putF f y fs; omega
  · show RelO ((putF f y fs).lookup g) (if g = f then some u else mA g)
    rw [lookup_putF]
    by_cases q : g = f
    · rw [if_pos q, if_pos q]; exact ry
    · rw [if_neg q, if_neg q]; exact r g
  · by_cases q : g = f
    · rw [q]; exact (keys_putF f y fs).1
    · refine (keys_putF f y fs).2 g (wi g fun z => hg ?_)
      show (if g = f then some u else mA g) = none
      rw [if_neg q]; exact z

/-- a new instance, tracked, without attributes -/
theorem Inv.made (I : Inv X pins σ H s) : Inv X pins σ (upd (upd H s.heap.objs.size (.own (s.heap.objs.size + 1))) (s.heap.objs.size + 1) (.ins C s.heap.objs.size []))
    { s with heap := (s.heap.push PySem.W.emptyDict).push (PySem.W.instObj C s.heap.objs.size) } := by
  have e1 : (s.heap.push PySem.W.emptyDict).get? s.heap.objs.size = some PySem.W.emptyDict := Heap.get?_push_size s.heap rfl
  have e2 : ((s.heap.push PySem.W.emptyDict).push (PySem.W.instObj C s.heap.objs.size)).get? (s.heap.objs.size + 1) = some (PySem.W.instObj C s.heap.objs.size) := by
    have := Heap.get?_push_size (s.heap.push PySem.W.emptyDict) (o := PySem.W.instObj C s.heap.objs.size) rfl
    rwa [Heap.size_push] at this
  have e3 : (s.heap.push PySem.W.emptyDict).Ns s.heap.objs.size (fun _ => none) := ⟨PySem.W.emptyDict, #[], _, e1, rfl, (fun e he => absurd he (by simp)), fun _ => rfl⟩
  have I1 := I.laid (a := s.heap.objs.size) (o := .own (s.heap.objs.size + 1)) (h' := s.heap.push PySem.W.emptyDict) (t' := s.toks) (fun b u q => Heap.get?_push_of_some _ q) (Nat.le_refl _) ⟨_, e1⟩
  refine I1.laid (a := s.heap.objs.size + 1) (o := .ins C s.heap.objs.size []) (t' := s.toks) (fun b u q => Heap.get?_push_of_some _ q) (Nat.le_of_eq (Heap.size_push _ _)) ?_
  have ne : s.heap.objs.size ≠ s.heap.objs.size + 1 := Nat.ne_of_lt (Nat.lt_succ_self _)
  refine ⟨by rw [upd_ne ne, upd_same], Nat.zero_le _, ne, e2, fun _ => none, (Heap.Ns1.of_empty e3).at fun o q => Heap.get?_push_of_some _ q, fun _ => True.intro, fun y hy => absurd rfl hy⟩

/-- e.f where nothing but the object is asked: through attributeBase (super) and the last hold -/
theorem attr_of {prog : Program} {w : World} {env : Env} {e : Expr} {f : Str} {pos : Pos} {s : Shared} {Q : Value → Shared → Prop} (hb : attributeBase e f env (eval e env) = eval e env)
    (h : wpAny (model prog w) A (eval e env) (fun o s₁ => wpAny (model prog w) A (getAttr o f true) Q E s₁) E s) : wpAny (model prog w) A (eval (.Attribute e f pos) env) Q E s :=
  Attribute_any_ h (by rw [arm_eval_Attribute, hb])
end

/-! ### readings and rules -/
/-- e.f, an attribute of the instance -/
def tFld (K : PySem.W.Frag) (ta : TE) (f : Str) : TE := fun σ H Q => ta σ H fun x H1 => ∃ a C dx fs v, x = .ref a ∧ H1 a = some (.ins C dx fs) ∧ Cls K C ∧ NoAttr K C f ∧ fs.lookup f = some v ∧ Q v H1
/-- e.f = value -/
def sFld (K : PySem.W.Frag) (ta tv : TE) (f : Str) : TS := fun D σ H => tv σ H fun y H1 => ta σ H1 fun x H2 => ∃ a C dx fs, x = .ref a ∧ H2 a = some (.ins C dx fs) ∧ Cls K C ∧ NoAttr K C f ∧ fs.length < 1000 ∧
  D.nx σ (upd H2 a (.ins C dx (putF f y fs)))
/-- an augmented operator on two values -/
def InOp (X : Cx) (op : Operator) (rd : V → V → Hp → VK → Prop) : Prop :=
  ∀ (pins : List (Addr × Obj)) (s : Shared) (σ : St) (H : Hp) (x y : V) (u v : Value) (Q : VK), Inv X pins σ H s → RelV x u → RelV y v → rd x y H Q → wpAny (model X.prog X.w) X.A (inplaceOp op u v) (EP X pins σ Q) X.xe s
/-- e.f op= value -/
def sFldAug (K : PySem.W.Frag) (ta tv : TE) (rd : V → V → Hp → VK → Prop) (f : Str) : TS := fun D σ H => ta σ H fun x H1 => ∃ a C dx fs v, x = .ref a ∧ H1 a = some (.ins C dx fs) ∧ Cls K C ∧ NoAttr K C f ∧ fs.lookup f = some v ∧
  tv σ H1 fun y H2 => rd v y H2 fun z H3 => ∃ dx' fs', H3 a = some (.ins C dx' fs') ∧ fs'.length < 1000 ∧ D.nx σ (upd H3 a (.ins C dx' (putF f z fs')))

section
variable {X : Cx} {o e value : Expr} {f : Str} {pos pos' tpos : Pos} {ta tv : TE}
theorem pe_fld (he : PE X e ta) (hb : attributeBase e f X.env (eval e X.env) = eval e X.env) : PE X (.Attribute e f pos) (tFld X.K ta f) := by
  intro pins s σ H Q I h
  refine attr_of hb (thn (he pins s σ H _ I h) fun u s1 ⟨x, H1, I1, rx, a, C, dx, fs, v, ex, ea, c, n, l, q⟩ => ?_)
  subst ex
  obtain rfl : u = Value.ref a := rx
  exact getattr_ok I1 ea c n l fun u' s2 I2 ru => ⟨v, H1, I2, ru, q⟩
theorem ps_fld (ha : PE X o ta) (hv : PE X value tv) (hs : swapsWith value (some (.Attribute o f pos')) pos.line X.env = pure false) : PS X (.Assign [.Attribute o f pos'] value pos) (sFld X.K ta tv f) := by
  intro pins s σ H D I h
  refine plainObj_wpAny_Assign_Attribute (thn (hv pins s σ H _ I h) fun u s1 ⟨y, H1, I1, ry, q⟩ => thn (ha pins s1 σ H1 _ I1 q) fun ov s2 ⟨x, H2, I2, rx, a, C, dx, fs, ex, ea, c, n, l, q2⟩ => ?_) hs
  subst ex
  obtain rfl : ov = Value.ref a := rx
  exact setattr_ok I2 ea c n l ry fun s3 I3 => ⟨σ, _, I3, q2⟩
theorem ps_fldaug {op : Operator} {rd : V → V → Hp → VK → Prop} (ha : PE X o ta) (hv : PE X value tv) (hop : InOp X op rd) : PS X (.AugAssign (.Attribute o f tpos) op value pos) (sFldAug X.K ta tv rd f) := by
  intro pins s σ H D I h
  refine wpAny_AugAssign_AttributeAny (thn (ha pins s σ H _ I h) fun ov s1 ⟨x, H1, I1, rx, a, C, dx, fs, v, ex, ea, c, n, l, q⟩ => ?_)
  subst ex
  obtain rfl : ov = Value.ref a := rx
  refine getattr_ok I1 ea c n l fun u s2 I2 ru => thn (hv pins s2 σ H1 _ I2 q) fun w3 s3 ⟨y, H2, I3, ry, q3⟩ => thn (hop pins s3 σ H2 v y u w3 _ I3 ru ry q3) fun w4 s4 ⟨z, H3, I4, rz, dx', fs', ea', l', q4⟩ => ?_
  exact setattr_ok I4 ea' c n l' rz fun s5 I5 => ⟨σ, _, I5, q4⟩
def rAdd : V → V → Hp → VK → Prop := fun x y H Q => ∃ i j, x = .int i ∧ y = .int j ∧ Q (.int (i + j)) H
theorem in_add : InOp X .Add rAdd := by
  rintro pins s σ H x y u v Q I rx ry ⟨i, j, rfl, rfl, q⟩
  obtain ⟨t, rfl⟩ := (show ∃ t, u = Value.int i t from rx)
  obtain ⟨t', rfl⟩ := (show ∃ t', v = Value.int j t' from ry)
  exact PyProof.Rows.iadd_int ⟨.int (i + j), H, I.tok _, ⟨_, rfl⟩, q⟩

end

/-! ### isinstance -/
section
variable {X : Cx} {pins : List (Addr × Obj)} {σ : St} {H : Hp} {s : Shared} {A : Around} {E : Value → Shared → Prop} {Q : Value → Shared → Prop} {c : Value} {b : Bool}
end
end L2

namespace L2
open PySem PySem.Spec PyProof.Rows

/-! ### room -/
structure Room (k : Nat) (A : Around) : Prop where
  hd : A.handled = none
  dp : A.depth + 3 * k + 5 < recursionLimit
  un : A.units + 16 * k + 200 < cLine
theorem Room.mono {j k : Nat} {A : Around} (r : Room k A) (h : j ≤ k) : Room j A := ⟨r.hd, by have := r.dp; omega, by have := r.un; omega⟩
theorem Room.deeper {k : Nat} {A : Around} (r : Room (k + 1) A) (env : Env) : Room k (A.deeper env) :=
  ⟨r.hd, by have := r.dp; show A.depth + 1 + 3 * k + 5 < _; omega, by have := r.un; show A.units + 3 + 16 * k + 200 < _; omega⟩
theorem make_depth {A : Around} {C : Addr} {us : List Value} {kw : List (Str × Value)} : (A.under (.builtin "type.__call__" ⟨.ref C :: us, kw⟩)).depth = A.depth + 1 := by
  first | rfl | simp [Around.under, Code.weight, Code.isCreation, Code.isGuard, Code.isCaller, Code.frames, Code.isFrame, guardIds]
theorem make_units {A : Around} {C : Addr} {us : List Value} {kw : List (Str × Value)} : (A.under (.builtin "type.__call__" ⟨.ref C :: us, kw⟩)).units = A.units + 1 := by
  first | rfl | simp [Around.under, Code.cUnits, Code.frames, Code.isFrame]
theorem Room.make {k : Nat} {A : Around} (r : Room (k + 1) A) (C : Addr) (us : List Value) (kw : List (Str × Value)) : Room k (A.under (.builtin "type.__call__" ⟨.ref C :: us, kw⟩)) :=
  ⟨r.hd, by have := r.dp; rw [make_depth]; omega, by have := r.un; rw [make_units]; omega⟩
theorem Room.depth {k : Nat} {A : Around} (r : Room k A) : A.depth < recursionLimit := by have := r.dp; omega
theorem Room.units {k : Nat} {A : Around} (r : Room k A) : A.units + 64 < cLine := by have := r.un; omega

/-! ### argument lists and displays -/
def tNil : TA := fun _ H Q => Q [] H
def tCons (ta : TE) (tr : TA) : TA := fun σ H Q => ta σ H fun x H1 => tr σ H1 fun xs H2 => Q (x :: xs) H2
section
variable {X : Cx} {e : Expr} {es : List Expr} {te : TE} {t : TA} {pos : Pos}
theorem pa_nil : PA X [] tNil := fun _ _ _ _ H Q I h => Calls.spliced_nil ⟨[], H, I, .nil, h⟩
theorem pa_cons (ha : PE X e te) (hr : PA X es t) (hs : starEach (e :: es) X.env = (false, eval e X.env) :: starEach es X.env := by rfl) : PA X (e :: es) (tCons te t) := by
  intro pos pins s σ H Q I h
  rw [hs]
  show wpAny _ _ (spliced ((false, eval e X.env) :: backTo pos (starEach es X.env))) _ _ s
  refine Calls.spliced_cons (thn (ha pins s σ H _ I h) fun u s1 ⟨x, H1, I1, r1, q1⟩ => ?_)
  exact thn (hr pos pins s1 σ H1 _ I1 q1) fun us s2 ⟨xs, H2, I2, r2, q2⟩ => ⟨x :: xs, H2, I2, .cons r1 r2, q2⟩

/-- a tuple, a list of written items -/
def tTup (t : TA) : TE := fun σ H Q => t σ H fun xs H1 => xs.length ≤ sizeLine ∧ ∀ p, H1 p = none → Q (.ref p) (upd H1 p (.tup xs))
def tLst (t : TA) : TE := fun σ H Q => t σ H fun xs H1 => xs.length ≤ sizeLine ∧ ∀ p, H1 p = none → Q (.ref p) (upd H1 p (.lst xs))
theorem pe_tup {x1} (h : PA X es t) : PE X (.Tuple es x1 pos) (tTup t) := by
  intro pins s σ H Q I hq
  refine wpAny_Tuple_spliced (thn (h pos pins s σ H _ I hq) fun us s1 ⟨xs, H1, I1, r, z, q⟩ => ⟨by rw [← r.length]; exact z, ?_⟩)
  have hf : H1 s1.heap.objs.size = none := I1.hok.fresh (Nat.le_refl _)
  refine ⟨.ref s1.heap.objs.size, upd H1 s1.heap.objs.size (.tup xs), I1.laid (t' := s1.toks) (fun b u e => Heap.get?_push_of_some _ e) (Nat.le_refl _) ?_, rfl, q _ hf⟩
  exact ⟨z, us, r, ⟨_, Heap.get?_push_size _ rfl, rfl, _, rfl⟩⟩
theorem pe_lst (h : PA X es t) : PE X (.List es pos) (tLst t) := by
  intro pins s σ H Q I hq
  refine wpAny_List_spliced (thn (h pos pins s σ H _ I hq) fun us s1 ⟨xs, H1, I1, r, z, q⟩ => ⟨by rw [← r.length]; exact z, ?_⟩)
  have hf : H1 s1.heap.objs.size = none := I1.hok.fresh (Nat.le_refl _)
  refine ⟨.ref s1.heap.objs.size, upd H1 s1.heap.objs.size (.lst xs), I1.laid (t' := s1.toks) (fun b u e => Heap.get?_push_of_some _ e) (Nat.le_refl _) ?_, rfl, q _ hf⟩
  exact ⟨z, us, 0, r, Heap.get?_push_size _ rfl⟩
end

/-! ### what a def promises -/
/-- a def's promise: the bound arguments in the parameters' order, the heap, the wanted end, the wanted exception -/
abbrev Sp := List V → Hp → VK → XK → Prop
/-- how an exception lies behind a call (file 08 gives it): the callers' frames, abstract heap and state ahead of the call, the wish, the exception, the state -/
abbrev CXT := List Env → Hp → Shared → XK → Value → Shared → Prop

/-- the state at a call -/
structure Env0 (P : Program) (w : World) (K : PySem.W.Frag) (mg : Str → Option Value) (base : Heap) (A : Around) (outer : List Env) (s : Shared) (H : Hp) : Prop where
  frames : A.frames = some outer
  mod : Mod K mg base
  bs : ∀ b o, base.get? b = some o → s.heap.get? b = some o ∧ H b = none
  bsz : base.objs.size ≤ s.heap.objs.size
  funs : s.heap.FunFrames base outer
  frf : ∀ b ∈ frs outer, H b = none
  hok : HOk P w H s.heap
  bare : AllBare s.gens
/-- a call's end -/
def CE (outer : List Env) (P : Program) (w : World) (H : Hp) (s : Shared) (Q : VK) (u : Value) (s' : Shared) : Prop :=
  ∃ v H', s'.os = s.os ∧ AllBare s'.gens ∧ Un (frs outer) [] H H' s.heap s'.heap ∧ HOk P w H' s'.heap ∧ RelV v u ∧ Q v H'
def CR (CX : CXT) (outer : List Env) (P : Program) (w : World) (H : Hp) (s : Shared) (Q : VK) (E : XK) (r : Result) (s' : Shared) : Prop :=
  match r with
  | .ok (.ret u) => CE outer P w H s Q u s'
  | .ok _ => False
  | .error e => CX outer H s E e s'
structure FnOk (P : Program) (w : World) (K : PySem.W.Frag) (mg : Str → Option Value) (base : Heap) (CX : CXT) (k : Nat) (f : Addr) (fd : FuncData) (ps : List Str) (sp : Sp) : Prop where
  len : ∀ vs H Q E, sp vs H Q E → vs.length = ps.length
  run : ∀ (A : Around) (outer : List Env) (s : Shared) (H : Hp) (args : Args) (us : List Value) (vs : List V) (Q : VK) (E : XK), Room k A → Env0 P w K mg base A outer s H → BindsTo s fd args (ps.zip us) → Vals vs us → sp vs H Q E →
    codeAny (model P w) A (.call (.ref f) args) (CR CX outer P w H s Q E) s

theorem Env0.make {P : Program} {w : World} {K : PySem.W.Frag} {mg : Str → Option Value} {base : Heap} {A : Around} {outer : List Env} {s : Shared} {H : Hp} (e : Env0 P w K mg base A outer s H) (C : Addr) (us : List Value) (kw : List (Str × Value)) :
    Env0 P w K mg base (A.under (.builtin "type.__call__" ⟨.ref C :: us, kw⟩)) outer s H := ⟨by first | exact e.frames | (simpa [Around.under, Code.envs, Code.isFrame, pushEnvs] using e.frames), e.mod, e.bs, e.bsz, e.funs, e.frf, e.hok, e.bare⟩

section
variable {X : Cx} {pins : List (Addr × Obj)} {σ : St} {H : Hp} {s s' : Shared}
/-- from a body: what a callee wants -/
theorem Inv.env0 (I : Inv X pins σ H s) : Env0 X.prog X.w X.K X.mg X.base X.A X.stack s H :=
  ⟨I.ok.frames, I.ok.mod, I.bs, Nat.le_trans I.ok.bsz I.sz, I.stack, I.stkFree, I.hok, I.bare⟩
/-- behind a call -/
theorem Inv.after {Q : VK} {u : Value} (I : Inv X pins σ H s) (h : CE X.stack X.prog X.w H s Q u s') : EP X pins σ Q u s' := by
  obtain ⟨v, H', os, bare, un, hok, r, q⟩ := h
  obtain ⟨hh, g, d, t, os'⟩ := s'
  obtain rfl : os' = s.os := os
  exact ⟨v, H', I.call (h' := hh) (g' := g) (d' := d) (t' := t) (ch := []) un hok bare (fun b z => absurd z (by simp)), r, q⟩
end

/-! ### calls -/
/-- f(..): the written arguments, then the defaults dvs; E: what is wanted of an exception -/
def tCall (sp : Sp) (dvs : List V) (E : XK) (t : TA) : TE := fun σ H Q => t σ H fun vs H1 => sp (vs ++ dvs) H1 Q E
/-- C(..): a new instance and its dict, then __init__ -/
def tMake (C : Addr) (sp : Sp) (dvs : List V) (E : XK) (t : TA) : TE := fun σ H Q => t σ H fun vs H1 => ∀ x dx, H1 x = none → H1 dx = none → dx ≠ x →
  sp (.ref x :: (vs ++ dvs)) (upd (upd H1 dx (.own x)) x (.ins C dx [])) (fun v H2 => v = .non ∧ Q (.ref x) H2) E

/-- how the parameters are bound: us the positional arguments, kw the keywords' values by name, ds the defaults that fill up -/
def Binds (K : PySem.W.Frag) (fd : FuncData) (ps : List Str) (ds : List Value) : Prop :=
  ∀ (s : Shared) (us : List Value), K.In s.heap → (us ++ ds).length = ps.length → BindsTo s fd ⟨us, []⟩ (ps.zip (us ++ ds))
/-- every parameter is given -/
theorem Binds.all {K : PySem.W.Frag} {fd : FuncData} {ps : List Str} (h : ∀ us : List Value, us.length = ps.length → bindArgs fd ⟨us, []⟩ = pure (ps.zip us)) : Binds K fd ps [] := fun s us _ hl => by
  rw [List.append_nil] at hl ⊢
  exact .of_eq (h us hl)

/-- an exception of a callee reaches what this body wants of exceptions -/
def Passes (CX : CXT) (X : Cx) (E : XK) : Prop := ∀ (pins : List (Addr × Obj)) (σ : St) (H : Hp) (s : Shared) (e : Value) (s' : Shared), Inv X pins σ H s → CX X.stack H s E e s' → X.xe e s'

section
variable {X : Cx} {CX : CXT} {k : Nat} {f C : Addr} {fd : FuncData} {ps : List Str} {sp : Sp} {dvs : List V} {ds : List Value} {E : XK} {x m : Str} {p pos apos : Pos} {e o : Expr} {es : List Expr} {ta : TE} {t : TA}

/-- the callee runs -/
theorem run_fn {pins : List (Addr × Obj)} {σ : St} {H : Hp} {s : Shared} {Q : VK} {us : List Value} {vs : List V} (F : FnOk X.prog X.w X.K X.mg X.base CX k f fd ps sp) (hr : Room k X.A) (hb : Binds X.K fd ps ds) (hd : Vals dvs ds) (hx : Passes CX X E)
    (I : Inv X pins σ H s) (r : Vals vs us) (h : sp (vs ++ dvs) H Q E) : wpAny (model X.prog X.w) X.A (call (.ref f) us) (EP X pins σ Q) X.xe s := by
  have r2 : Vals (vs ++ dvs) (us ++ ds) := r.append hd
  have hl : (us ++ ds).length = ps.length := by rw [← r2.length]; exact F.len _ _ _ _ h
  refine wpAny_call (codeAny_mono (F.run X.A X.stack s H ⟨us, []⟩ (us ++ ds) (vs ++ dvs) Q E hr I.env0 (hb s us I.kIn hl) r2 h) fun r s' hq => ?_)
  cases r with
  | error e => exact hx pins σ H s e s' I hq
  | ok fl =>
    cases fl with
    | ret u => exact I.after hq
    | next => exact False.elim hq
    | brk => exact False.elim hq
    | cont => exact False.elim hq

theorem pe_call (F : FnOk X.prog X.w X.K X.mg X.base CX k f fd ps sp) (hr : Room k X.A) (hg : Gl X x) (hm : X.mg x = some (.ref f)) (hk : PySem.W.keepIn X.K (.ref f) = true) (hb : Binds X.K fd ps ds) (hd : Vals dvs ds) (hx : Passes CX X E)
    (ha : PA X (e :: es) t) (hdb : (x == ("__debug__" : Str)) = false := by decide) (he : starEach (e :: es) X.env = (false, eval e X.env) :: starEach es X.env := by rfl) (hpl : (backTo pos (starEach es X.env)).any (·.1) = false := by rfl) :
    PE X (.Call (.Name x p) (e :: es) [] pos) (tCall sp dvs E t) := by
  intro pins s σ H Q I h
  refine wpAny_Call_Name_kw (ld_glob I hg hm ?_ hdb)
  refine PySem.W.callWith_K (h₀ := X.base) I.ok.mod.kin hk (thn (ha pos pins s σ H _ I h) fun us s1 ⟨vs, H1, I1, r, q⟩ => ⟨I1.kIn, ?_⟩) he hpl
  exact run_fn F hr hb hd hx I1 r q


/-- what a class must have to be made -/
structure Mk (K : PySem.W.Frag) (C f : Addr) : Prop where
  makes : PySem.W.makesIn K C = true
  init : PySem.W.findIn K (.ref C) "__init__" = some (some (.ref f))
  fn : PySem.W.isFn K (.ref f) = true
  kp : PySem.W.keepIn K (.ref C) = true

theorem run_make {pins : List (Addr × Obj)} {σ : St} {H : Hp} {s : Shared} {Q : VK} {us : List Value} {vs : List V} (M : Mk X.K C f) (F : FnOk X.prog X.w X.K X.mg X.base CX k f fd ps sp) (hr : Room (k + 1) X.A) (hb : Binds X.K fd ps ds) (hd : Vals dvs ds)
    (hx : Passes CX X E) (I : Inv X pins σ H s) (r : Vals vs us)
    (h : ∀ x dx, H x = none → H dx = none → dx ≠ x → sp (.ref x :: (vs ++ dvs)) (upd (upd H dx (.own x)) x (.ins C dx [])) (fun v H2 => v = .non ∧ Q (.ref x) H2) E) :
    wpAny (model X.prog X.w) X.A (call (.ref C) us) (EP X pins σ Q) X.xe s := by
  have hq := h (s.heap.objs.size + 1) s.heap.objs.size (I.hok.fresh (Nat.le_succ _)) (I.hok.fresh (Nat.le_refl _)) (Nat.ne_of_lt (Nat.lt_succ_self _))
  have I2 := Inv.made (C := C) I
  have r2 : Vals (V.ref (s.heap.objs.size + 1) :: (vs ++ dvs)) (Value.ref (s.heap.objs.size + 1) :: (us ++ ds)) := .cons rfl (r.append hd)
  have hl : (Value.ref (s.heap.objs.size + 1) :: us ++ ds).length = ps.length := by
    have e := r2.length
    rw [F.len _ _ _ _ hq] at e
    exact e.symm
  refine wpAny_call (make_map (f := f) I.kIn M.makes M.init (beq_iff_eq.mp M.fn) (codeAny_mono (F.run _ X.stack _ _ ⟨Value.ref (s.heap.objs.size + 1) :: us, []⟩ (Value.ref (s.heap.objs.size + 1) :: (us ++ ds)) _ _ E (hr.make C us [])
    (I2.env0.make C us []) (hb _ (Value.ref (s.heap.objs.size + 1) :: us) I2.kIn hl) r2 hq) fun r s' hq' => ?_))
  cases r with
  | error e => exact hx pins σ _ _ e s' I2 hq'
  | ok fl =>
    cases fl with
    | ret u =>
      obtain ⟨v, H', I3, rv, ev, q3⟩ := I2.after hq'
      subst ev
      exact ⟨rv, ⟨V.ref (s.heap.objs.size + 1), H', I3, rfl, q3⟩⟩
    | next => exact False.elim hq'
    | brk => exact False.elim hq'
    | cont => exact False.elim hq'
theorem pe_make (M : Mk X.K C f) (F : FnOk X.prog X.w X.K X.mg X.base CX k f fd ps sp) (hr : Room (k + 1) X.A) (hg : Gl X x) (hm : X.mg x = some (.ref C)) (hb : Binds X.K fd ps ds) (hd : Vals dvs ds) (hx : Passes CX X E)
    (ha : PA X (e :: es) t) (hdb : (x == ("__debug__" : Str)) = false := by decide) (he : starEach (e :: es) X.env = (false, eval e X.env) :: starEach es X.env := by rfl) (hpl : (backTo pos (starEach es X.env)).any (·.1) = false := by rfl) :
    PE X (.Call (.Name x p) (e :: es) [] pos) (tMake C sp dvs E t) := by
  intro pins s σ H Q I h
  refine wpAny_Call_Name_kw (ld_glob I hg hm ?_ hdb)
  refine PySem.W.callWith_K (h₀ := X.base) I.ok.mod.kin M.kp (thn (ha pos pins s σ H _ I h) fun us s1 ⟨vs, H1, I1, r, q⟩ => ⟨I1.kIn, ?_⟩) he hpl
  exact run_make M F hr hb hd hx I1 r q
theorem pe_make0 (M : Mk X.K C f) (F : FnOk X.prog X.w X.K X.mg X.base CX k f fd ps sp) (hr : Room (k + 1) X.A) (hg : Gl X x) (hm : X.mg x = some (.ref C)) (hb : Binds X.K fd ps ds) (hd : Vals dvs ds) (hx : Passes CX X E)
    (hdb : (x == ("__debug__" : Str)) = false := by decide) : PE X (.Call (.Name x p) [] [] pos) (tMake C sp dvs E tNil) := by
  intro pins s σ H Q I h
  refine wpAny_Call_Name_kw (ld_glob I hg hm ?_ hdb)
  exact PySem.W.callWith_K0 I.kIn M.kp (run_make (us := []) M F hr hb hd hx I .nil h)
end

/-! ### keywords -/
section
variable {X : Cx} {CX : CXT} {k : Nat} {f C : Addr} {fd : FuncData} {ps ks : List Str} {sp : Sp} {E : XK} {x m : Str} {p pos apos kpos : Pos} {e o : Expr} {es : List Expr} {kws : List Keyword} {te ta : TE} {t tk : TA} {nm : Option Str}

variable {g : List Value → List Value → List Value} {gV : List V → List V → List V}
end

/-! ### a def's body keeps its promise -/
/-- names: the parameters first -/
structure FnScope (N P : List Str) (sc : Scope) : Prop where
  kind : sc.kind = .function
  co : sc.isCoroutine = false
  gen : sc.isGenerator = false
  nd : N.Nodup
  pre : N.take P.length = P
  par : ∀ x ∈ P, sc.names.lookup x = some .local ∨ sc.names.lookup x = some .cell
  nofree : ∀ y ∈ sc.names, y.2 ≠ .free

theorem bindL_out {kindOf : Str → Option NameKind} {x : Str} : ∀ {binds : List (Str × Value)} {m : Str → Option Value}, (∀ v, (x, v) ∉ binds) → bindL kindOf binds m x = m x
  | [], _, _ => rfl
  | (n, v) :: r, m, h => by
    unfold bindL
    rw [bindL_out fun w hw => h w (List.mem_cons_of_mem _ hw)]
    split
    · have : x ≠ n := by rintro rfl; exact h v List.mem_cons_self
      simp [this]
    · rfl
theorem bindC_out {kindOf : Str → Option NameKind} {x : Str} : ∀ {binds : List (Str × Value)} {m : Str → Option Value}, (∀ v, (x, v) ∉ binds) → bindC kindOf binds m x = m x
  | [], _, _ => rfl
  | (n, v) :: r, m, h => by
    unfold bindC
    rw [bindC_out fun w hw => h w (List.mem_cons_of_mem _ hw)]
    split
    · rfl
    · have : x ≠ n := by rintro rfl; exact h v List.mem_cons_self
      simp [this]
theorem bindL_get {kindOf : Str → Option NameKind} {x : Str} {v : Value} : ∀ {P : List Str} {vs : List Value} {i : Nat} {m : Str → Option Value}, P.Nodup → P[i]? = some x → vs[i]? = some v → kindOf x = some .local →
    bindL kindOf (P.zip vs) m x = some v
  | [], _, _, _, _, h, _, _ => by simp at h
  | _ :: _, [], _, _, _, _, h, _ => by simp at h
  | p :: P, w :: vs, 0, m, nd, h1, h2, hk => by
    simp at h1 h2; subst h1; subst h2
    show bindL kindOf ((p, w) :: P.zip vs) m p = _
    unfold bindL
    rw [bindL_out fun v hv => (List.nodup_cons.mp nd).1 (List.of_mem_zip hv).1, if_pos hk]
    simp
  | p :: P, w :: vs, i + 1, m, nd, h1, h2, hk => by
    show bindL kindOf ((p, w) :: P.zip vs) m x = _
    unfold bindL
    exact bindL_get (i := i) (List.nodup_cons.mp nd).2 (by simpa using h1) (by simpa using h2) hk
theorem bindC_get {kindOf : Str → Option NameKind} {x : Str} {v : Value} : ∀ {P : List Str} {vs : List Value} {i : Nat} {m : Str → Option Value}, P.Nodup → P[i]? = some x → vs[i]? = some v → kindOf x ≠ some .local →
    bindC kindOf (P.zip vs) m x = some v
  | [], _, _, _, _, h, _, _ => by simp at h
  | _ :: _, [], _, _, _, _, h, _ => by simp at h
  | p :: P, w :: vs, 0, m, nd, h1, h2, hk => by
    simp at h1 h2; subst h1; subst h2
    show bindC kindOf ((p, w) :: P.zip vs) m p = _
    unfold bindC
    rw [bindC_out fun v hv => (List.nodup_cons.mp nd).1 (List.of_mem_zip hv).1, if_neg hk]
    simp
  | p :: P, w :: vs, i + 1, m, nd, h1, h2, hk => by
    show bindC kindOf ((p, w) :: P.zip vs) m x = _
    unfold bindC
    exact bindC_get (i := i) (List.nodup_cons.mp nd).2 (by simpa using h1) (by simpa using h2) hk

/-- the names' values at the entry -/
def start (N : List Str) (vs : List V) : St := vs.map some ++ List.replicate (N.length - vs.length) none

/-- the context of a def's body, at its entry; an exception leaves the frame, then lies as CX says -/
def cxOf (CX : CXT) (P : Program) (w : World) (K : PySem.W.Frag) (mg : Str → Option Value) (base : Heap) (N : List Str) (qual : Str) (scope : Scope) (f : Addr) (cd : Value) (A : Around) (outer : List Env) (s : Shared) (H : Hp) (E : XK) : Cx where
  prog := P
  w := w
  K := K
  mg := mg
  base := base
  A := A.deeper (envOfC qual scope s.heap.objs.size f cd)
  N := N
  s₀ := s
  H₀ := H
  env := envOfC qual scope s.heap.objs.size f cd
  outer := outer
  stack := envOfC qual scope s.heap.objs.size f cd :: outer
  ex := []
  calm := true
  fn := fun _ => true
  pn := []
  xe := fun e s' => wpAny (model P w) (A.deeper (envOfC qual scope s.heap.objs.size f cd)) (leaving (envOfC qual scope s.heap.objs.size f cd) e) (fun _ s'' => CX outer H s E e s'') (fun e' s'' => CX outer H s E e' s'') s'

theorem cell_has {sc : Scope} {n : Nat} {x : Str} (h : sc.names.lookup x = some .cell) : ∃ c, (cellsFrom n sc.names []).lookup x = some c := by
  have q := PySem.W.cellsFrom_some sc.names n [] (.inl h)
  exact Option.isSome_iff_exists.mp q

theorem inv_start {CX : CXT} {P : Program} {w : World} {K : PySem.W.Frag} {mg : Str → Option Value} {base : Heap} {N ps : List Str} {qual : Str} {scope : Scope} {f : Addr} {cd : Value} {A : Around} {outer : List Env} {s s1 : Shared} {H : Hp} {E : XK} {us : List Value} {vs : List V}
    (S : FnScope N ps scope) (hd : A.handled = none) (e0 : Env0 P w K mg base A outer s H) (hl : vs.length = ps.length) (r : Vals vs us)
    (x : InCallC s s.heap.objs.size (bindL (envOfC qual scope s.heap.objs.size f cd).kindOf (ps.zip us) fun _ => none) (cellsFrom (s.heap.objs.size + 1) scope.names []) (bindC (envOfC qual scope s.heap.objs.size f cd).kindOf (ps.zip us) fun _ => none) s1) :
    Inv (cxOf CX P w K mg base N qual scope f cd A outer s H E) [] (start N vs) H s1 := by
  have hpl : ps.length ≤ N.length := by have := congrArg List.length S.pre; rw [List.length_take] at this; omega
  obtain ⟨h1, tk, rfl, hk⟩ := x.done
  have noA : ∀ b : Addr, b ∉ (cxOf CX P w K mg base N qual scope f cd A outer s H E).ex := fun b z => absurd (show b ∈ ([] : List Addr) from z) (by simp)
  refine ⟨⟨e0.mod, S.kind, rfl, rfl, Nat.le_refl _, fun y z c h1 h2 => ?_, fun y hy => ?_, fun y c _ h => ?_, fun _ => hd, Around.frames_deeper e0.frames, .inr ⟨rfl, rfl⟩, fun b z => absurd z (noA b), e0.bs, e0.bsz, fun b _ _ => noA b, fun b z => absurd z (noA b), e0.funs, e0.frf⟩,
    rfl, e0.bare, Un.kept hk, ⟨_, x.toInCall.ns, fun i y v h1 h2 h3 => ?_⟩, fun y c h => ⟨_, x.cell y c h⟩, e0.hok.fresh (Nat.le_refl _), fun y c h => ?_, fun p hp => absurd (show p ∈ ([] : List (Addr × Obj)) from hp) (by simp), e0.hok.kept hk, ?_⟩
  · exact name_of_addr x.apart (PySem.mem_of_lookup h1) (PySem.mem_of_lookup h2)
  · have hy : scope.names.lookup y = some .cell ∨ scope.names.lookup y = some .free := hy
    rcases hy with hy | hy
    · exact cell_has hy
    · exact absurd rfl (S.nofree _ (PySem.mem_of_lookup hy))
  · exact Nat.le_of_lt (x.above y c (PySem.mem_of_lookup h))
  · have hi : i < vs.length := by
      unfold start at h2
      by_cases hi : i < vs.length
      · exact hi
      · rw [List.getElem?_append_right (by simpa using hi)] at h2
        rw [List.getElem?_replicate] at h2
        split at h2 <;> cases h2
    have ha : vs[i]? = some v := by
      unfold start at h2
      rw [List.getElem?_append_left (by simpa using hi), List.getElem?_map] at h2
      cases e : vs[i]? with
      | none => rw [e] at h2; cases h2
      | some a => rw [e] at h2; cases h2; rfl
    obtain ⟨u, hu, rv⟩ := r.get ha
    have hp : ps[i]? = some y := by
      rw [← S.pre, List.getElem?_take_of_lt (by omega)]; exact h1
    have ndP : ps.Nodup := by rw [← S.pre]; exact S.nd.sublist (List.take_sublist _ _)
    refine ⟨u, rv, ?_⟩
    rcases S.par y (List.mem_of_getElem? hp) with k | k
    · exact .inl ⟨k, bindL_get ndP hp hu k⟩
    · obtain ⟨c, e⟩ := cell_has (n := s.heap.objs.size + 1) k
      refine .inr ⟨.inl k, c, e, ?_⟩
      have q := x.cell y c e
      rw [bindC_get ndP hp hu (by show scope.names.lookup y ≠ _; rw [k]; decide)] at q
      exact q
  · exact e0.hok.fresh (Nat.le_of_lt (x.above y c (PySem.mem_of_lookup h)))
  · unfold start
    show _ = N.length
    rw [List.length_append, List.length_map, List.length_replicate]
    omega

/-- THE RULE: a def (or a method) of the text, by its body. The body's reading t is chosen for each entry; it is run at the parameters' values -/
theorem fn_of {CX : CXT} {P : Program} {w : World} {K : PySem.W.Frag} {mg : Str → Option Value} {base : Heap} {k : Nat} {f : Addr} {name qual : Str} {params : Arguments} {body : List Stmt} {scope : Scope} {dV kV doc pm cdv ct oc : Value} {an od : Option Addr}
    {osl : Array (Option Value)} {N ps : List Str} {sp : Sp} (lk : K.lookup f = some ⟨oc, od, .func (PySem.W.fnOf name qual params body scope dV kV doc pm an cdv ct), osl⟩) (hcd : PySem.W.codeIn K cdv qual = true) (S : FnScope N ps scope)
    (len : ∀ vs H Q E, sp vs H Q E → vs.length = ps.length)
    (hbody : ∀ (A : Around) (outer : List Env) (s : Shared) (H : Hp) (vs : List V) (Q : VK) (E : XK), Room k (A.deeper (envOfC qual scope s.heap.objs.size f cdv)) → sp vs H Q E →
      ∃ t, PSs (cxOf CX P w K mg base N qual scope f cdv A outer s H E) body t ∧ t { nx := fun _ H' => Q .non H', rt := Q } (start N vs) H) :
    FnOk P w K mg base CX (k + 1) f (PySem.W.fnOf name qual params body scope dV kV doc pm an cdv ct) ps sp := by
  refine ⟨len, fun A outer s H args us vs Q E hr e0 hb r hsp => ?_⟩
  have hl := len _ _ _ _ hsp
  have KX : K.In s.heap := e0.mod.kin.keeps fun b o e => (e0.bs b o e).1
  have lim : s.heap.NoLimit := e0.mod.nolimit.keeps fun b o e => (e0.bs b o e).1
  have hkind : ∀ y ∈ ps.zip us, scope.names.lookup y.1 = some .local ∨ (scope.names.lookup y.1 = some .cell ∧ ((cellsFrom (s.heap.objs.size + 1) scope.names []).lookup y.1).isSome = true) := fun ⟨n, v⟩ hy => by
    rcases S.par n (List.of_mem_zip hy).1 with q | q
    · exact .inl q
    · exact .inr ⟨q, PySem.W.cellsFrom_some _ _ _ (.inl q)⟩
  refine codeAny_call_function hr.depth (KX _ _ lk) rfl S.co S.gen rfl (PySem.W.codeRec_of KX hcd) (hb _ _ _ _ ?_)
  refine wpAny_newFunctionEnv_cells S.kind hkind fun env he s1 x => ?_
  subst he
  refine ⟨lim.keeps x.toInCall.keep, codeAny_func ?_⟩
  obtain ⟨t, ht, hq⟩ := hbody A outer s H vs Q E (hr.deeper _) hsp
  have I : Inv (cxOf CX P w K mg base N qual scope f cdv A outer s H E) [] (start N vs) H s1 := inv_start S hr.hd e0 hl r x
  refine wpAny_mono (ht [] s1 (start N vs) H _ I hq) (fun fl s' hs => ?_) fun e s' hs => hs
  have fin : ∀ {σ' : St} {H' : Hp} {v : V} {u : Value}, Inv (cxOf CX P w K mg base N qual scope f cdv A outer s H E) [] σ' H' s' → RelV v u → Q v H' → CE outer P w H s Q u s' :=
    fun {σ' H' v u} J rv q => ⟨v, H', J.os, J.bare, J.base, J.hok, rv, q⟩
  cases fl with
  | ret u =>
    obtain ⟨v, σ', H', J, rv, q⟩ := hs
    exact fin J rv q
  | next =>
    obtain ⟨σ', H', J, q⟩ := hs
    exact fin (v := V.non) (u := Value.none) J rfl q
  | brk =>
    obtain ⟨_, _, _, q⟩ := hs
    exact False.elim q
  | cont =>
    obtain ⟨_, _, _, q⟩ := hs
    exact False.elim q
end L2

namespace L2
open PySem PySem.Spec PyProof.Rows
section
variable {X : Cx} {x : Str} {p pos : Pos} {e : Expr} {es : List Expr} {t : TA} {id T : String} {r : List V → Hp → VK → Prop}

def tCB (r : List V → Hp → VK → Prop) (t : TA) : TE := fun σ H Q => t σ H fun vs H1 => r vs H1 Q
/-- f(e, ..), f a built-in function -/
theorem pe_callB (hc : CallR X (.builtin id) r) (hg : Gl X x) (hm : X.mg x = none) (hv : bootBuiltins x = some (.builtin id)) (ha : PA X (e :: es) t) (hn : x ≠ "__name__" := by decide) (hdb : (x == ("__debug__" : Str)) = false := by decide)
    (he : starEach (e :: es) X.env = (false, eval e X.env) :: starEach es X.env := by rfl) (hpl : (backTo pos (starEach es X.env)).any (·.1) = false := by rfl) : PE X (.Call (.Name x p) (e :: es) [] pos) (tCB r t) := by
  intro pins s σ H Q I h
  refine wpAny_Call_Name_kw (ld_blt I hg hm hv ?_ hn hdb)
  exact PyProof.Rows.callWith_builtin1 (thn (ha pos pins s σ H _ I h) fun us s1 ⟨vs, H1, I1, r1, q1⟩ => hc pins s1 σ H1 vs us Q I1 r1 q1) he hpl
/-- T(e, ..), T a built-in type -/
theorem pe_callTy (hc : CallR X (.type T) r) (hg : Gl X x) (hm : X.mg x = none) (hv : bootBuiltins x = some (.type T)) (ha : PA X (e :: es) t) (hn : x ≠ "__name__" := by decide) (hdb : (x == ("__debug__" : Str)) = false := by decide)
    (he : starEach (e :: es) X.env = (false, eval e X.env) :: starEach es X.env := by rfl) (hpl : (backTo pos (starEach es X.env)).any (·.1) = false := by rfl) : PE X (.Call (.Name x p) (e :: es) [] pos) (tCB r t) := by
  intro pins s σ H Q I h
  refine wpAny_Call_Name_kw (ld_blt I hg hm hv ?_ hn hdb)
  exact PyProof.Rows.callWith_type1 (thn (ha pos pins s σ H _ I h) fun us s1 ⟨vs, H1, I1, r1, q1⟩ => hc pins s1 σ H1 vs us Q I1 r1 q1) he hpl
end
end L2

namespace HT
open PySem PyProof.Rows



section
open PySem.SeqAt
open PySem.AutoSeq1 (wpAny_loadPart')
open PySem.MeetsSeq PySem.MeetsSeq2 PySem.MeetsSeq3

end

section
variable {prog : Program} {w : World} {A : Around} {E : Value → Shared → Prop} {s : Shared}



/-! ### t[a:b], not the whole -/
/-- a slice's bound as a place among n (d where it is left out) -/
def sIx (n d : Nat) : Option Int → Nat
  | none => d
  | some v => if v < 0 then (v + (n : Int)).toNat else min v.toNat n
theorem sIx_none (n d : Nat) : sIx n d none = d := rfl
theorem sIx_nat (n d k : Nat) : sIx n d (some (k : Int)) = min k n := by
  show (if (k : Int) < 0 then ((k : Int) + (n : Int)).toNat else min (k : Int).toNat n) = min k n
  rw [if_neg (by omega), Int.toNat_natCast]

end
end HT

namespace L2
open PySem PySem.Spec PyProof.Rows

/-! ### the parts of a slice -/
abbrev TO := St → Hp → (Option Int → Hp → Prop) → Prop
/-- a slice's part (left out, or an int) -/
def PO (X : Cx) (e : Option Expr) (t : TO) : Prop :=
  ∀ (pins : List (Addr × Obj)) (s : Shared) (σ : St) (H : Hp) (Q : Option Int → Hp → Prop), Inv X pins σ H s → t σ H Q →
    wpAny (model X.prog X.w) X.A (evalPart e X.env) (fun u s' => ∃ o H', Inv X pins σ H' s' ∧ IsPart u o ∧ Q o H') X.xe s
def tNoPart : TO := fun _ H Q => Q none H
def tPart (t : TE) : TO := fun σ H Q => t σ H fun x H1 => ∃ i, x = .int i ∧ Q (some i) H1


section
variable {X : Cx} {e : Expr} {te : TE} {lo hi : Option Expr} {tl th : TO} {pos p2 : Pos}

theorem po_none : PO X none tNoPart := by
  intro pins s σ H Q I h
  rw [evalPart_none]
  exact wpAny_pure ⟨none, H, I, .none, h⟩
theorem po_some (h : PE X e te) : PO X (some e) (tPart te) := by
  intro pins s σ H Q I hw
  rw [evalPart_some]
  refine thn (h pins s σ H _ I hw) fun u s1 ⟨x, H1, I1, r1, q1⟩ => ?_
  obtain ⟨i, rfl, q⟩ := q1
  obtain ⟨t, rfl⟩ := r1
  exact ⟨some i, H1, I1, .int i t, q⟩

/-- what a slice of a value is, by values: the slice object stands at sl -/
def SlR (X : Cx) (r : V → Option Int → Option Int → Hp → VK → Prop) : Prop :=
  ∀ (pins : List (Addr × Obj)) (s : Shared) (σ : St) (H : Hp) (x : V) (v vl vu : Value) (lo hi : Option Int) (sl : Addr) (Q : VK), Inv X pins σ H s → RelV x v → s.heap.IsSliceOf sl vl vu .none → IsPart vl lo → IsPart vu hi → r x lo hi H Q →
    ∃ T id, typeLookup (.type T) "__getitem__" = pure (some (.builtin id)) ∧ s.TypeIs v T ∧ wpAny (model X.prog X.w) X.A (getItem v (.ref sl)) (EP X pins σ Q) X.xe s
def tSl (r : V → Option Int → Option Int → Hp → VK → Prop) (te : TE) (tl th : TO) : TE := fun σ H Q => te σ H fun x H1 => tl σ H1 fun l H2 => th σ H2 fun u H3 => r x l u H3 Q
/-- a[lo:hi], any a -/
theorem pe_slice {r : V → Option Int → Option Int → Hp → VK → Prop} (hr : SlR X r) (he : PE X e te) (hl : PO X lo tl) (hu : PO X hi th) : PE X (.Subscript e (.Slice lo hi none p2) pos) (tSl r te tl th) := by
  intro pins s σ H Q I h
  refine Subscript_ (thn (he pins s σ H _ I h) fun v s1 ⟨x, H1, I1, r1, q1⟩ => ?_)
  refine wpAny_Slice (thn (hl pins s1 σ H1 _ I1 q1) fun vl s2 ⟨l, H2, I2, pl, q2⟩ => thn (hu pins s2 σ H2 _ I2 q2) fun vu s3 ⟨u, H3, I3, pu, q3⟩ => ?_)
  rw [evalPart_none]
  refine wpAny_pure ?_
  have I4 : Inv X pins σ H3 { s3 with heap := s3.heap.push { cls := .type "slice", data := .fields #[vl, vu, .none] } } := I3.kept (t' := s3.toks) fun b ob q => Heap.get?_push_of_some _ q
  obtain ⟨T, id, hT, ht, hg⟩ := hr pins { s3 with heap := s3.heap.push { cls := .type "slice", data := .fields #[vl, vu, .none] } } σ H3 x v vl vu l u s3.heap.objs.size Q I4 r1 (Heap.IsSliceOf.new ..) pl pu q3
  show wpAny (model X.prog X.w) X.A (subscriptTail e (.Slice lo hi none p2) v (.ref s3.heap.objs.size)) (EP X pins σ Q) X.xe { s3 with heap := s3.heap.push { cls := .type "slice", data := .fields #[vl, vu, .none] } }
  exact tail_any (ops := [.ref s3.heap.objs.size, v]) ht hT hg (by with_unfolding_all rfl)

/-- the items of xs[lo:hi] -/
def cutV (xs : List V) (lo hi : Option Int) : List V := (xs.drop (HT.sIx xs.length 0 lo)).take (HT.sIx xs.length xs.length hi - HT.sIx xs.length 0 lo)
theorem cutV_length (xs : List V) (lo hi : Option Int) : (cutV xs lo hi).length ≤ xs.length := by
  unfold cutV
  rw [List.length_take, List.length_drop]
  omega

/-! ### t < u, t + u -/
end
end L2

namespace L2
open PySem PySem.Spec PyProof.Rows

/-! ### places -/
/-- the place that an index of any sign means -/
def ixN (n : Nat) (i : Int) : Option Nat := if 0 ≤ i then (if i < n then some i.toNat else none) else if -(n : Int) ≤ i then some (i + n).toNat else none
def atI {α : Type} (xs : List α) (i : Int) : Option α := (ixN xs.length i).bind fun j => xs[j]?
theorem ixN_seq {n : Nat} {i : Int} {j : Nat} (h : ixN n i = some j) : seqIndex? i n = some j ∧ j < n ∧ -(n : Int) ≤ i ∧ i < n := by
  unfold ixN at h
  by_cases h0 : 0 ≤ i
  · rw [if_pos h0] at h
    by_cases h1 : i < n
    · rw [if_pos h1] at h
      have e : i.toNat = j := Option.some.inj h
      exact ⟨by rw [seqIndex_of h0 h1, e], by omega, by omega, h1⟩
    · rw [if_neg h1] at h; cases h
  · rw [if_neg h0] at h
    by_cases h1 : -(n : Int) ≤ i
    · rw [if_pos h1] at h
      have e : (i + n).toNat = j := Option.some.inj h
      exact ⟨by rw [seqIndex_neg (by omega) h1, e], by omega, h1, by omega⟩
    · rw [if_neg h1] at h; cases h
theorem atI_get {α : Type} {xs : List α} {i : Int} {v : α} (h : atI xs i = some v) : ∃ j, seqIndex? i xs.length = some j ∧ xs[j]? = some v ∧ j < xs.length ∧ -(xs.length : Int) ≤ i ∧ i < xs.length := by
  unfold atI at h
  cases e : ixN xs.length i with
  | none => rw [e] at h; cases h
  | some j =>
    rw [e] at h
    obtain ⟨h1, h2, h3, h4⟩ := ixN_seq e
    exact ⟨j, h1, h, h2, h3, h4⟩
theorem atI_nat {α : Type} {xs : List α} {j : Nat} {v : α} (h : xs[j]? = some v) : atI xs (j : Int) = some v := by
  have hj : j < xs.length := (List.getElem?_eq_some_iff.mp h).1
  have e : ixN xs.length (j : Int) = some j := by
    unfold ixN
    rw [if_pos (by omega), if_pos (by omega)]; simp
  unfold atI; rw [e]; exact h

/-! ### what may be subscripted -/
/-- what stands as an index of a plain subscript -/
def PlainIx (b : Expr) : Prop := ∀ o i, subscripted b false o i = operate [o, i] (getItem o i)
/-- a subscript by values -/
def IxR (X : Cx) (r : R2) : Prop :=
  ∀ (value slice : Expr) (pins : List (Addr × Obj)) (s : Shared) (σ : St) (H : Hp) (x y : V) (v u : Value) (Q : VK), Inv X pins σ H s → RelV x v → RelV y u → r x y H Q →
    subscripted slice false v u = operate [v, u] (getItem v u) → wpAny (model X.prog X.w) X.A (subscriptTail value slice v u) (EP X pins σ Q) X.xe s
/-- a call of a builtin's method by values: the receiver, the arguments -/
def MtR (X : Cx) (id : String) (r : V → List V → Hp → VK → Prop) : Prop :=
  ∀ (pins : List (Addr × Obj)) (s : Shared) (σ : St) (H : Hp) (x : V) (xs : List V) (v : Value) (us : List Value) (Q : VK), Inv X pins σ H s → RelV x v → Vals xs us → r x xs H Q →
    wpAny (model X.prog X.w) X.A (call (.builtin id) (v :: us)) (EP X pins σ Q) X.xe s
section
variable {X : Cx} {a b : Expr} {ta tb : TE} {pos : Pos}
/-- a[b] -/
theorem pe_ix {r : R2} (hr : IxR X r) (ha : PE X a ta) (hb : PE X b tb) (hs : PlainIx b) : PE X (.Subscript a b pos) (tOp r ta tb) := by
  intro pins s σ H Q I h
  exact Subscript_ (binT ha hb I h fun v u s2 x y H2 I2 rx ry q => hr a b pins s2 σ H2 x y v u Q I2 rx ry q (hs _ _))

def rIxL (K : PySem.W.Frag) : R2 := fun x y H Q => ∃ p xs i v, x = .ref p ∧ y = .int i ∧ SqL K H p xs ∧ atI xs i = some v ∧ Q v H
def rIxT (K : PySem.W.Frag) : R2 := fun x y H Q => ∃ p xs i v, x = .ref p ∧ y = .int i ∧ SqT K H p xs ∧ atI xs i = some v ∧ Q v H
theorem ix_list : IxR X (rIxL X.K) := by
  intro value slice pins s σ H x y v u Q I rx ry h hs
  obtain ⟨p, xs, i, z, rfl, rfl, hq, he, q⟩ := h
  cases rx
  obtain ⟨t, rfl⟩ := ry
  obtain ⟨its, r, pl, hz⟩ := I.list hq
  obtain ⟨j, h1, h2, h3, h4, h5⟩ := atI_get he
  obtain ⟨w, ew, rw'⟩ := r.get h2
  have hl := r.length
  have hn := line63
  have fin : EP X pins σ Q w s := ⟨z, H, I, rw', q⟩
  by_cases h0 : 0 ≤ i
  · have hj : i.toNat = j := by
      rw [seqIndex_of h0 h5] at h1
      exact Option.some.inj h1
    exact item_listR pl.isList h0 (by omega) (by rw [hj]; simpa using ew) fin hs
  · have hj : (i + (its.toArray.size : Int)).toNat = j := by
      rw [seqIndex_neg (by omega) h4] at h1
      rw [List.size_toArray, ← hl]
      exact Option.some.inj h1
    exact subscriptTail_builtinR (x := w) pl.isList.typeIs slot_list_getitem.lookup
      (wpAny_getItem_list_neg (Q := fun r s' => r = w ∧ EP X pins σ Q r s') pl.isList (by omega) (by rw [List.size_toArray] <;> omega) (by omega) (by rw [hj]; simpa using ew) ⟨rfl, fin⟩) hs
theorem ix_tup : IxR X (rIxT X.K) := by
  intro value slice pins s σ H x y v u Q I rx ry h hs
  obtain ⟨p, xs, i, z, rfl, rfl, hq, he, q⟩ := h
  cases rx
  obtain ⟨t, rfl⟩ := ry
  obtain ⟨its, r, pl, hz⟩ := I.tuple hq
  obtain ⟨j, h1, h2, h3, h4, h5⟩ := atI_get he
  obtain ⟨w, ew, rw'⟩ := r.get h2
  have hl := r.length
  have hn := line63
  have fin : EP X pins σ Q w s := ⟨z, H, I, rw', q⟩
  exact subscriptTail_builtinR (x := w) pl.typeIs slot_tuple_getitem.lookup
    (getItem_tuple (j := j) (Q := fun r s' => r = w ∧ EP X pins σ Q r s') pl (by omega) (by omega) (by rw [List.size_toArray, ← hl]; exact h1) (by simpa using ew) ⟨rfl, fin⟩) hs

/-! ### xs[i] = v, any sign -/
/-- the list's object behind a store -/
theorem mapSeq_set (its : List Value) (n j : Nat) (u : Value) : Obj.mapSeq (·.setIfInBounds j u) { cls := .type "list", data := .seq its.toArray n } = { cls := .type "list", data := .seq (its.set j u).toArray n } := by
  simp [Obj.mapSeq]
theorem Inv.lst {pins : List (Addr × Obj)} {σ : St} {H : Hp} {s : Shared} {p : Addr} {xs : List V} (I : Inv X pins σ H s) (h : H p = some (.lst xs)) :
    ∃ (its : List Value) (n : Nat), Vals xs its ∧ s.heap.get? p = some { cls := .type "list", data := .seq its.toArray n } ∧ xs.length ≤ sizeLine := by
  obtain ⟨z, its, n, r, e⟩ := I.hok p _ h
  exact ⟨its, n, r, e, z⟩
/-- the list at p is written by an update of its object -/
theorem Inv.lstUpd {pins : List (Addr × Obj)} {σ : St} {H : Hp} {s : Shared} {p : Addr} {xs ys : List V} {its its' : List Value} {n n' : Nat} {f : Obj → Obj} (I : Inv X pins σ H s) (h : H p = some (.lst xs))
    (ho : s.heap.get? p = some { cls := .type "list", data := .seq its.toArray n }) (hf : f { cls := .type "list", data := .seq its.toArray n } = { cls := .type "list", data := .seq its'.toArray n' }) (r : Vals ys its') (hz : ys.length ≤ sizeLine) (t : Nat) :
    Inv X pins σ (upd H p (.lst ys)) { s with heap := s.heap.update p f, toks := t } := by
  have e : (s.heap.update p f).get? p = some { cls := .type "list", data := .seq its'.toArray n' } := by
    rw [Heap.get?_update_self f ho (by rw [hf] <;> rfl), hf]
  refine I.write (x := p) (e := p) (by rw [h]; trivial) (.inl rfl) (fun b u hb q => (Heap.get?_update_other _ _ (Ne.symm hb)).trans q) ⟨_, e⟩ ?_
  exact ⟨hz, its', n', r, e⟩
def rSetL : V → V → V → Hp → (Hp → Prop) → Prop := fun o i v H Q => ∃ p xs k j, o = .ref p ∧ i = .int k ∧ H p = some (.lst xs) ∧ ixN xs.length k = some j ∧ Q (upd H p (.lst (xs.set j v)))
theorem set_list : PSet X rSetL := by
  intro pins s σ H o i v ov iv u Q I ro ri rv h
  obtain ⟨p, xs, k, j, rfl, rfl, hp, hj, q⟩ := h
  cases ro
  obtain ⟨t, rfl⟩ := ri
  obtain ⟨its, n, r, ho, hz⟩ := I.lst hp
  obtain ⟨h1, h2, h3, h4⟩ := ixN_seq hj
  have hl := r.length
  have hn := line63
  have I' : Inv X pins σ (upd H p (.lst (xs.set j v))) { s with heap := s.heap.update p (Obj.mapSeq (·.setIfInBounds j u)) } :=
    I.lstUpd hp ho (mapSeq_set its n j u) (r.set rv j) (by rw [List.length_set]; exact hz) s.toks
  by_cases h0 : 0 ≤ k
  · have hk : k.toNat = j := by
      rw [seqIndex_of h0 h4] at h1
      exact Option.some.inj h1
    exact PySem.W.ki_setAt ho h0 (by omega) (by rw [List.size_toArray, ← hl]; exact h4) (by rw [hk]; exact ⟨_, I', q⟩)
  · have hk : (k + (its.toArray.size : Int)).toNat = j := by
      rw [seqIndex_neg (by omega) h3] at h1
      rw [List.size_toArray, ← hl]
      exact Option.some.inj h1
    exact PySem.W.ki_setBack ho (by omega) (by rw [List.size_toArray, ← hl]; exact h3) (by omega) (by rw [hk]; exact ⟨_, I', q⟩)

/-! ### slices -/
theorem slice_bounds (lo hi : Option Int) (n : Nat) : (sliceBounds lo hi none n).1 = ((HT.sIx n 0 lo : Nat) : Int) ∧ (sliceBounds lo hi none n).2.1 = ((HT.sIx n n hi : Nat) : Int) ∧ (sliceBounds lo hi none n).2.2 = 1 := by
  refine ⟨?_, ?_, rfl⟩
  · cases lo with
    | none => simp [sliceBounds, HT.sIx]
    | some i =>
      simp only [sliceBounds, HT.sIx, Option.getD_none, show (1 : Int) > 0 by decide, if_true]
      by_cases h : i < 0
      · simp only [h, if_true] <;> omega
      · simp only [h, if_false] <;> omega
  · cases hi with
    | none => simp [sliceBounds, HT.sIx]
    | some i =>
      simp only [sliceBounds, HT.sIx, Option.getD_none, show (1 : Int) > 0 by decide, if_true]
      by_cases h : i < 0
      · simp only [h, if_true] <;> omega
      · simp only [h, if_false] <;> omega
theorem slicePick_cut (its : List Value) (lo hi : Option Int) : slicePick its.toArray lo hi none = ((its.drop (HT.sIx its.length 0 lo)).take (HT.sIx its.length its.length hi - HT.sIx its.length 0 lo)).toArray := by
  obtain ⟨h1, h2, h3⟩ := slice_bounds lo hi its.toArray.size
  unfold slicePick
  rw [h1, h2, h3]
  simp only [sliceRange_one, pick_run, List.size_toArray] <;> rfl
/-- xs[lo:hi] of a list: a new list -/
def rSlL (K : PySem.W.Frag) : V → Option Int → Option Int → Hp → VK → Prop := fun x lo hi H Q => ∃ a xs, x = .ref a ∧ SqL K H a xs ∧ ∀ p, H p = none → Q (.ref p) (upd H p (.lst (cutV xs lo hi)))
theorem sl_list : SlR X (rSlL X.K) := by
  intro pins s σ H x v vl vu lo hi sl Q I rx hs pl pu h
  obtain ⟨a, xs, rfl, hx, q⟩ := h
  cases rx
  obtain ⟨its, r, ht, hz⟩ := I.list hx
  have hlen := r.length
  refine ⟨"list", _, slot_list_getitem.lookup, ht.isList.typeIs, ?_⟩
  refine wpAny_getItem_list_slice ht.isList hs pl pu .none (by simp) ?_ (by rw [List.size_toArray] <;> omega)
  rw [slicePick_cut, ← hlen]
  refine ⟨.ref s.heap.objs.size, _, I.laid (t' := s.toks) (o := .lst (cutV xs lo hi)) (fun b ob q => Heap.get?_push_of_some _ q) (Nat.le_refl _) ?_, rfl, q _ (I.hok.fresh (Nat.le_refl _))⟩
  exact ⟨Nat.le_trans (cutV_length xs lo hi) hz, _, 0, (r.drop (HT.sIx xs.length 0 lo)).take (HT.sIx xs.length xs.length hi - HT.sIx xs.length 0 lo), Heap.get?_push_size _ rfl⟩

/-! ### in, not in: flat items -/
def flatV : V → Bool
  | .non => true
  | .bl _ => true
  | .int _ => true
  | .str _ => true
  | _ => false
/-- == of flat values -/
def eqV : V → V → Bool
  | .non, .non => true
  | .bl a, .bl b => a == b
  | .bl a, .int b => (if a then 1 else 0) == b
  | .int a, .bl b => a == (if b then 1 else 0)
  | .int a, .int b => a == b
  | .str a, .str b => a == b
  | _, _ => false
theorem eqAt_V {A : Around} {s : Shared} {y x : V} {u v : Value} (ry : RelV y u) (rx : RelV x v) (fy : flatV y = true) (fx : flatV x = true) : SeqAt.EqAt A s u v (eqV y x) := by
  cases y with
  | non =>
    cases ry
    cases x with
    | non => cases rx; exact SeqAt.EqAt.same _
    | bl b => cases rx; exact SeqAt.EqAt.none_bool b
    | int b => obtain ⟨t, rfl⟩ := rx; exact SeqAt.EqAt.none_int b t
    | str b => obtain ⟨t, rfl⟩ := rx; exact SeqAt.EqAt.none_str b t
    | _ => exact absurd (show false = true from fx) Bool.false_ne_true
  | bl a =>
    cases ry
    cases x with
    | non => cases rx; exact SeqAt.EqAt.bool_none a
    | bl b => cases rx; exact SeqAt.EqAt.bool_bool a b
    | int b => obtain ⟨t, rfl⟩ := rx; exact SeqAt.EqAt.bool_int a b t
    | str b => obtain ⟨t, rfl⟩ := rx; exact SeqAt.EqAt.bool_str a b t
    | _ => exact absurd (show false = true from fx) Bool.false_ne_true
  | int a =>
    obtain ⟨t', rfl⟩ := ry
    cases x with
    | non => cases rx; exact SeqAt.EqAt.int_none a t'
    | bl b => cases rx; exact SeqAt.EqAt.int_bool a t' b
    | int b => obtain ⟨t, rfl⟩ := rx; exact SeqAt.EqAt.int_int a t' b t
    | str b => obtain ⟨t, rfl⟩ := rx; exact SeqAt.EqAt.int_str a t' b t
    | _ => exact absurd (show false = true from fx) Bool.false_ne_true
  | str a =>
    obtain ⟨t', rfl⟩ := ry
    cases x with
    | non => cases rx; exact SeqAt.EqAt.str_none a t'
    | bl b => cases rx; exact SeqAt.EqAt.str_bool a t' b
    | int b => obtain ⟨t, rfl⟩ := rx; exact SeqAt.EqAt.str_int a t' b t
    | str b => obtain ⟨t, rfl⟩ := rx; exact SeqAt.EqAt.str_str a t' b t
    | _ => exact absurd (show false = true from fx) Bool.false_ne_true
  | _ => exact absurd (show false = true from fy) Bool.false_ne_true
/-- the items' answers, read off the values (a value's own answer does not lean on its token) -/
def eqU (x : V) (u : Value) : Bool := match u with
  | .none => eqV .non x
  | .bool b => eqV (.bl b) x
  | .int i _ => eqV (.int i) x
  | .str z _ => eqV (.str z) x
  | _ => false
theorem eqU_of {x y : V} {u : Value} (r : RelV y u) (f : flatV y = true) : eqU x u = eqV y x := by
  cases y with
  | non => cases r; rfl
  | bl b => cases r; rfl
  | int i => obtain ⟨t, rfl⟩ := r; rfl
  | str z => obtain ⟨t, rfl⟩ := r; rfl
  | _ => exact absurd (show false = true from f) Bool.false_ne_true
theorem any_eqU {x : V} : ∀ {xs : List V} {us : List Value}, Vals xs us → xs.all flatV = true → us.any (eqU x) = xs.any fun y => eqV y x
  | _, _, .nil, _ => rfl
  | y :: xs, u :: us, .cons r t, f => by
    rw [List.all_cons, Bool.and_eq_true] at f
    rw [List.any_cons, List.any_cons, eqU_of r f.1, any_eqU t f.2]
theorem mem_eqAt {A : Around} {s : Shared} {x : V} {v : Value} (rx : RelV x v) (fx : flatV x = true) : ∀ {xs : List V} {us : List Value}, Vals xs us → xs.all flatV = true → ∀ u ∈ us, SeqAt.EqAt A s u v (eqU x u)
  | _, _, .nil, _ => fun u hu => by cases hu
  | y :: xs, u :: us, .cons r t, f => fun u' hu => by
    rw [List.all_cons, Bool.and_eq_true] at f
    rcases List.mem_cons.mp hu with rfl | hu
    · rw [eqU_of r f.1]; exact eqAt_V r rx f.1 fx
    · exact mem_eqAt rx fx t f.2 u' hu
def inV (x : V) (xs : List V) : Bool := xs.any fun y => eqV y x
/-- x in a list or tuple of flat items -/
def rIn (K : PySem.W.Frag) (neg : Bool) : R2 := fun x y H Q => ∃ p xs, y = .ref p ∧ (SqL K H p xs ∨ SqT K H p xs) ∧ flatV x = true ∧ xs.all flatV = true ∧ Q (.bl (if neg then !inV x xs else inV x xs)) H
theorem op_in_seq : OpR X (compareOp .In) (rIn X.K false) := by
  intro pins s σ H x y v u Q I rx ry h
  obtain ⟨p, xs, rfl, hq, fx, fs, q⟩ := h
  cases ry
  rcases hq with hq | hq
  · obtain ⟨its, r, pl, hz⟩ := I.list hq
    refine SeqAt.in_listAt (eqU x) pl.isList (fun w hw => mem_eqAt rx fx r fs w (by simpa using hw)) ⟨.bl _, H, I, rfl, ?_⟩
    rw [show its.toArray.any (eqU x) = its.any (eqU x) by simp, any_eqU r fs]
    exact q
  · obtain ⟨its, r, pl, hz⟩ := I.tuple hq
    refine SeqAt.in_tupleAt (eqU x) pl (fun w hw => mem_eqAt rx fx r fs w (by simpa using hw)) ⟨.bl _, H, I, rfl, ?_⟩
    rw [show its.toArray.any (eqU x) = its.any (eqU x) by simp, any_eqU r fs]
    exact q
theorem op_notIn_seq : OpR X (compareOp .NotIn) (rIn X.K true) := by
  intro pins s σ H x y v u Q I rx ry h
  obtain ⟨p, xs, rfl, hq, fx, fs, q⟩ := h
  cases ry
  rcases hq with hq | hq
  · obtain ⟨its, r, pl, hz⟩ := I.list hq
    refine SeqAt.notIn_listAt (eqU x) pl.isList (fun w hw => mem_eqAt rx fx r fs w (by simpa using hw)) ⟨.bl _, H, I, rfl, ?_⟩
    rw [show its.toArray.any (eqU x) = its.any (eqU x) by simp, any_eqU r fs]
    exact q
  · obtain ⟨its, r, pl, hz⟩ := I.tuple hq
    refine SeqAt.notIn_tupleAt (eqU x) pl (fun w hw => mem_eqAt rx fx r fs w (by simpa using hw)) ⟨.bl _, H, I, rfl, ?_⟩
    rw [show its.toArray.any (eqU x) = its.any (eqU x) by simp, any_eqU r fs]
    exact q

/-! ### len, list(x), tuple(x) of any list or tuple that is read -/
theorem call_len_seq : CallR X (.builtin "len") (fun xs H Q => ∃ p ys, xs = [.ref p] ∧ (SqL X.K H p ys ∨ SqT X.K H p ys) ∧ Q (.int ys.length) H) := by
  intro pins s σ H xs us Q I r h
  obtain ⟨p, ys, rfl, hq, q⟩ := h
  obtain ⟨u, rfl, rx⟩ := vals1 r
  cases rx
  have hn := line63
  rcases hq with hq | hq
  · obtain ⟨its, r', pl, hz⟩ := I.list hq
    have hlen := r'.length
    exact Calls.call_len_list pl.isList (by simp only [List.size_toArray] <;> omega) ⟨.int ys.length, H, I.tok _, ⟨s.toks + 1, by rw [List.size_toArray, hlen]⟩, q⟩
  · obtain ⟨its, r', pl, hz⟩ := I.tuple hq
    have hlen := r'.length
    exact len_tuple pl (by simp only [List.size_toArray] <;> omega) ⟨.int ys.length, H, I.tok _, ⟨s.toks + 1, by rw [List.size_toArray, hlen]⟩, q⟩
theorem call_list_of : CallR X (.type "list") (fun xs H Q => ∃ p ys, xs = [.ref p] ∧ (SqL X.K H p ys ∨ SqT X.K H p ys) ∧ ∀ l, H l = none → Q (.ref l) (upd H l (.lst ys))) := by
  intro pins s σ H xs us Q I r h
  obtain ⟨p, ys, rfl, hq, q⟩ := h
  obtain ⟨u, rfl, rx⟩ := vals1 r
  cases rx
  have fin : ∀ (its : List Value), Vals ys its → ys.length ≤ sizeLine → ∀ (h' : Heap) (c' : Nat), (∀ b o', s.heap.get? b = some o' → h'.get? b = some o') →
      h'.get? s.heap.objs.size = some { cls := .type "list", dict := none, data := .seq its.toArray c', slots := #[] } → EP X pins σ Q (.ref s.heap.objs.size) { s with heap := h' } := fun its r' hz h' c' kp e =>
    ⟨.ref s.heap.objs.size, _, I.laid (t' := s.toks) kp (Nat.le_refl _) (show ObjOk X.prog X.w _ h' _ (.lst ys) from ⟨hz, its, c', r', e⟩), rfl, q _ (I.hok.fresh (Nat.le_refl _))⟩
  rcases hq with hq | hq
  · obtain ⟨its, r', pl, hz⟩ := I.list hq
    have hlen := r'.length
    obtain ⟨o, ho, hc, n, hd⟩ := pl.isList
    exact call_list_seq p (.inl rfl) ho hc hd (fun h' c' kp e => fin its r' hz h' c' kp e) (by simp only [List.size_toArray] <;> omega)
  · obtain ⟨its, r', pl, hz⟩ := I.tuple hq
    have hlen := r'.length
    obtain ⟨o, ho, hc, n, hd⟩ := pl
    exact call_list_seq p (.inr rfl) ho hc hd (fun h' c' kp e => fin its r' hz h' c' kp e) (by simp only [List.size_toArray] <;> omega)

/-! ### the call of a builtin's method: o.m(..) -/
/-- the value is of that builtin type -/
def tyV (K : PySem.W.Frag) (T : String) (x : V) (H : Hp) : Prop := match x with
  | .str _ => T = "str"
  | .int _ => T = "int"
  | .ref p => (T = "list" ∧ ∃ xs, SqL K H p xs) ∨ (T = "tuple" ∧ ∃ o, K.lookup p = some o ∧ o.cls = .type "tuple" ∧ o.dict = none) ∨
      (T = "dict" ∧ ((∃ kvs, H p = some (.dK kvs)) ∨ ∃ kvs, H p = some (.dT kvs))) ∨ (T = "set" ∧ ∃ S n, H p = some (.set S n))
  | _ => False
theorem tyV_is {pins : List (Addr × Obj)} {σ : St} {H : Hp} {s : Shared} {T : String} {x : V} {v : Value} (I : Inv X pins σ H s) (r : RelV x v) (ty : tyV X.K T x H) :
    s.TypeIs v T ∧ ∀ a, v = .ref a → ∃ ob, s.heap.get? a = some ob ∧ ob.dict = none := by
  cases x with
  | str z =>
    obtain ⟨t, rfl⟩ := r
    cases (show T = "str" from ty)
    exact ⟨typeIs_str s z t, fun _ e => nomatch e⟩
  | int i =>
    obtain ⟨t, rfl⟩ := r
    cases (show T = "int" from ty)
    exact ⟨typeIs_int s i t, fun _ e => nomatch e⟩
  | ref p =>
    cases r
    rcases ty with ⟨rfl, xs, hq⟩ | ⟨rfl, o, hk, hc, hd⟩ | ⟨rfl, hk⟩ | ⟨rfl, S, n, hk⟩
    · obtain ⟨its, _, pl, _⟩ := I.list hq
      refine ⟨pl.isList.typeIs, fun a e => ?_⟩
      cases e
      obtain ⟨o, n, e, c, hd, _⟩ := pl
      exact ⟨o, e, hd⟩
    · refine ⟨⟨o, I.kIn p o hk, hc⟩, fun a e => ?_⟩
      cases e
      exact ⟨o, I.kIn _ o hk, hd⟩
    · have z : ∃ o, s.heap.get? p = some o ∧ o.ExactDict := by
        rcases hk with ⟨kvs, hk⟩ | ⟨kvs, hk⟩
        · obtain ⟨_, _, _, _, o, _, _, e, ex, _⟩ := I.hok p _ hk
          exact ⟨o, e, ex⟩
        · obtain ⟨_, _, _, _, o, _, _, e, ex, _⟩ := I.hok p _ hk
          exact ⟨o, e, ex⟩
      obtain ⟨o, e, ex⟩ := z
      refine ⟨⟨o, e, ex.1⟩, fun a e2 => ?_⟩
      cases e2
      exact ⟨o, e, ex.2.1⟩
    · obtain ⟨o, _, _, _, e, ex, _⟩ := I.hok p _ hk
      refine ⟨⟨o, e, ex.1⟩, fun a e2 => ?_⟩
      cases e2
      exact ⟨o, e, ex.2.1⟩
  | _ => exact False.elim ty
def tBM0 (K : PySem.W.Frag) (T : String) (r : V → List V → Hp → VK → Prop) (to : TE) : TE := fun σ H Q => to σ H fun x H1 => tyV K T x H1 ∧ r x [] H1 Q
def tBM (K : PySem.W.Frag) (T : String) (r : V → List V → Hp → VK → Prop) (to : TE) (t : TA) : TE := fun σ H Q => to σ H fun x H1 => tyV K T x H1 ∧ t σ H1 fun xs H2 => r x xs H2 Q
variable {o e : Expr} {es : List Expr} {to : TE} {t : TA} {name : Str} {apos cpos : Pos} {T id : String} {r : V → List V → Hp → VK → Prop}
theorem pe_bm0 (pa : PlainAttrs T) (slot : Slot T name id) (hty : typeOf (.builtin id) = pure (.type "method_descriptor")) (hm : MtR X id r) (ho : PE X o to)
    (hbase : attributeBase o name X.env (eval o X.env) = eval o X.env := by rfl) (hline : (apos.endLine == cpos.line) = true := by rfl) : PE X (.Call (.Attribute o name apos) [] [] cpos) (tBM0 X.K T r to) := by
  intro pins s σ H Q I h
  refine wpAny_Call_method0_late hbase hline (thn (ho pins s σ H _ I h) fun v s1 ⟨x, H1, I1, r1, ty, q1⟩ => ?_)
  obtain ⟨h1, h2⟩ := tyV_is I1 r1 ty
  exact ⟨T, id, pa, slot, hty, h1, h2, Calls.callWith_builtin rfl (PySem.evalArgs_none (hm pins s1 σ H1 x [] v [] Q I1 r1 .nil q1))⟩
theorem pe_bm (pa : PlainAttrs T) (slot : Slot T name id) (hty : typeOf (.builtin id) = pure (.type "method_descriptor")) (hm : MtR X id r) (ho : PE X o to) (ha : PA X (e :: es) t)
    (hbase : attributeBase o name X.env (eval o X.env) = eval o X.env := by rfl)
    (hfew : ((backTo cpos (starEach (e :: es) X.env)).all (fun x => !x.1) && (backToKw cpos (keywordEach [] X.env)).all (fun x => x.1.isSome)
      && decide ((e :: es).length + ([] : List Keyword).length + (if ([] : List Keyword).isEmpty then 0 else 1) < 30)) = true := by rfl)
    (hline : (apos.endLine == cpos.line) = true := by rfl) (hs : starEach (e :: es) X.env = (false, eval e X.env) :: starEach es X.env := by rfl) (hplain : (backTo cpos (starEach es X.env)).any (·.1) = false := by rfl) :
    PE X (.Call (.Attribute o name apos) (e :: es) [] cpos) (tBM X.K T r to t) := by
  intro pins s σ H Q I h
  refine wpAny_Call_method_late hbase hfew hline rfl (thn (ho pins s σ H _ I h) fun v s1 ⟨x, H1, I1, r1, ty, q1⟩ => ?_)
  obtain ⟨h1, h2⟩ := tyV_is I1 r1 ty
  refine ⟨T, id, pa, slot, hty, h1, h2, ?_⟩
  have hA := ha cpos pins s1 σ H1 _ I1 q1
  rw [hs] at hA ⊢
  refine Calls.callWith_builtin (by show (false || (backTo cpos (starEach es X.env)).any (·.1)) = false; rw [hplain] <;> rfl) (Calls.evalArgs_plain ?_)
  exact thn hA fun us s2 ⟨vs, H2, I2, r2, q2⟩ => hm pins s2 σ H2 x vs v us Q I2 r1 r2 q2
/- xs.append(e), list.index on a module's tuple .. are MtR facts of 06m -/
end
end L2

namespace L2
open PySem PySem.Spec PyProof.Rows

def MtM (X : Cx) (id : String) (r : V → List V → Hp → VK → Prop) : Prop :=
  ∀ (pins : List (Addr × Obj)) (s : Shared) (σ : St) (H : Hp) (x : V) (xs : List V) (v : Value) (us : List Value) (Q : VK), Inv X pins σ H s → RelV x v → Vals xs us → r x xs H Q →
    wpAny (model X.prog X.w) X.A (call (.builtin id) (v :: us)) (EP X pins σ Q) X.xe s

/-! ### lists of values -/
theorem Vals.one : ∀ {x : V} {us : List Value}, Vals [x] us → ∃ u, us = [u] ∧ RelV x u
  | _, _, .cons r .nil => ⟨_, rfl, r⟩
theorem Vals.rep {xs : List V} {us : List Value} (h : Vals xs us) : ∀ k : Nat, Vals (List.replicate k xs).flatten (List.replicate k us).flatten
  | 0 => .nil
  | k + 1 => by
    rw [List.replicate_succ, List.replicate_succ, List.flatten_cons, List.flatten_cons]
    exact Vals.append h (Vals.rep h k)
theorem foldl_rep (its : List Value) : ∀ (k : Nat) (acc : List Value),
    List.foldl (fun x1 x2 => x1 ++ x2) acc.toArray (List.replicate k its.toArray) = (acc ++ (List.replicate k its).flatten).toArray
  | 0, acc => by simp
  | k + 1, acc => by
    have e : acc.toArray ++ its.toArray = (acc ++ its).toArray := by simp
    have e2 : (acc ++ its) ++ (List.replicate k its).flatten = acc ++ (List.replicate (k + 1) its).flatten := by
      rw [List.replicate_succ, List.flatten_cons, List.append_assoc]
    rw [← e2, ← foldl_rep its k (acc ++ its), ← e, List.replicate_succ, List.foldl_cons]

section
variable {X : Cx} {pins : List (Addr × Obj)} {σ : St} {H : Hp} {s : Shared} {l b : Addr} {xs ys zs : List V}

/-! ### the two steps: a tracked list is rewritten, a new list is laid -/
theorem Inv.lset {its its' : List Value} {n : Nat} {f : Array Value → Array Value} {t' : Nat} (I : Inv X pins σ H s) (hH : H l = some (.lst xs))
    (e : s.heap.get? l = some { cls := .type "list", data := .seq its.toArray n }) (hf : f its.toArray = its'.toArray) (hv : Vals ys its') (hz : ys.length ≤ sizeLine) :
    Inv X pins σ (upd H l (.lst ys)) { s with heap := s.heap.update l (Obj.mapSeq f), toks := t' } := by
  have q := PySem.IsL.update e f
  rw [hf] at q
  refine I.write (x := l) (e := l) (by rw [hH]; exact trivial) (.inl rfl) (fun b' u hb hu => (Heap.get?_update_other s.heap (Obj.mapSeq f) (Ne.symm hb)).trans hu) ⟨_, q⟩ ?_
  exact ⟨hz, its', _, hv, q⟩
theorem Inv.lnew {its : List Value} {t' : Nat} (I : Inv X pins σ H s) (hv : Vals ys its) (hz : ys.length ≤ sizeLine) :
    Inv X pins σ (upd H s.heap.objs.size (.lst ys)) { s with heap := s.heap.push { cls := .type "list", data := .seq its.toArray }, toks := t' } :=
  I.laid (fun _ _ q => Heap.get?_push_of_some _ q) (Nat.le_refl _) ⟨hz, its, 0, hv, Heap.get?_push_size _ rfl⟩
theorem Inv.fresh (I : Inv X pins σ H s) : H s.heap.objs.size = none := I.hok.fresh (Nat.le_refl _)
theorem Inv.lstM (I : Inv X pins σ H s) (hH : H l = some (.lst xs)) : xs.length ≤ sizeLine ∧ ∃ (its : List Value) (n : Nat), Vals xs its ∧ xs.length = its.length ∧ s.heap.get? l = some { cls := .type "list", data := .seq its.toArray n } := by
  obtain ⟨z, its, n, r, e⟩ := I.hok l _ hH
  exact ⟨z, its, n, r, r.length, e⟩

theorem notLongL {n : Nat} (h : n ≤ sizeLine) : Builtin.List.listTooLong n = false := by
  unfold Builtin.List.listTooLong
  exact decide_eq_false (by omega)
end

section
variable {X : Cx}

/-! ### methods -/
def rAppend : V → List V → Hp → VK → Prop := fun x vs H Q => ∃ l xs y, x = .ref l ∧ vs = [y] ∧ H l = some (.lst xs) ∧ xs.length < sizeLine ∧ Q .non (upd H l (.lst (xs ++ [y])))
theorem mt_append : MtM X "list.append" rAppend := by
  intro pins s σ H x vs v us Q I rx rv h
  obtain ⟨l, xs, y, rfl, rfl, hH, hz, q⟩ := h
  cases rx
  obtain ⟨u, rfl, ru⟩ := rv.one
  obtain ⟨z, its, n, r, hl, e⟩ := I.lstM hH
  refine call_meets F.slot_list_append ⟨_, e, rfl⟩ F.entry_list_append (F.args_list_append_2 _ _) (PySem.list_append l its.toArray n u (by rw [List.size_toArray]; omega)) ⟨e, ?_⟩
  refine ⟨.non, _, I.lset (its' := its ++ [u]) hH e (by simp) (r.append (.cons ru .nil)) ?_, rfl, q⟩
  rw [List.length_append, List.length_singleton]
  omega

def rExtend : V → List V → Hp → VK → Prop := fun x vs H Q => ∃ l b xs zs, x = .ref l ∧ vs = [.ref b] ∧ H l = some (.lst xs) ∧ H b = some (.lst zs) ∧ xs.length + zs.length ≤ sizeLine ∧ Q .non (upd H l (.lst (xs ++ zs)))
theorem mt_extend : MtM X "list.extend" rExtend := by
  intro pins s σ H x vs v us Q I rx rv h
  obtain ⟨l, b, xs, zs, rfl, rfl, hH, hB, hz, q⟩ := h
  cases rx
  obtain ⟨u, rfl, ru⟩ := rv.one
  cases ru
  obtain ⟨z, its, n, r, hl, e⟩ := I.lstM hH
  obtain ⟨z2, its2, n2, r2, hl2, e2⟩ := I.lstM hB
  have hsz : its.toArray.size + its2.toArray.size ≤ sizeLine := by rw [List.size_toArray, List.size_toArray]; omega
  have hlong : ¬ (!its.toArray.isEmpty && Builtin.List.listTooLong (its.toArray.size + its2.toArray.size)) = true := by
    rw [notLongL hsz, Bool.and_false]
    exact Bool.false_ne_true
  refine call_meets F.slot_list_extend ⟨_, e, rfl⟩ F.entry_list_extend (F.args_list_extend_2 _ _)
    (AutoSeq1.list_extend_list_list_0 l its.toArray n b its2.toArray n2 hlong (by rw [List.size_toArray]; omega) (by omega)) ⟨e, e2, ?_⟩
  refine ⟨.non, _, I.lset (its' := its ++ its2) hH e (by simp) (r.append r2) ?_, rfl, q⟩
  rw [List.length_append]
  omega





/-! ### list + list, list += list, list * int -/
def rCat : R2 := fun x y H Q => ∃ l b xs zs, x = .ref l ∧ y = .ref b ∧ H l = some (.lst xs) ∧ H b = some (.lst zs) ∧ xs.length + zs.length ≤ sizeLine ∧ ∀ p, H p = none → Q (.ref p) (upd H p (.lst (xs ++ zs)))
theorem op_cat : OpR X (binaryOp .Add) rCat := by
  intro pins s σ H x y v u Q I rx ry h
  obtain ⟨l, b, xs, zs, rfl, rfl, hH, hB, hz, q⟩ := h
  cases rx
  cases ry
  obtain ⟨z, its, n, r, hl, e⟩ := I.lstM hH
  obtain ⟨z2, its2, n2, r2, hl2, e2⟩ := I.lstM hB
  refine PySem.P.add_list e e2 ?_ (by rw [List.size_toArray, List.size_toArray]; omega)
  have ea : its.toArray ++ its2.toArray = (its ++ its2).toArray := by simp
  rw [ea]
  exact ⟨.ref _, _, I.lnew (t' := s.toks) (r.append r2) (by rw [List.length_append]; omega), rfl, q _ I.fresh⟩
/-- a list times an int (a negative one is nothing) -/
def rRep : R2 := fun x y H Q => ∃ l k xs, x = .ref l ∧ y = .int k ∧ H l = some (.lst xs) ∧ -(2 ^ 63) ≤ k ∧ k < 2 ^ 63 ∧ xs.length * k.toNat ≤ sizeLine ∧
  ∀ p, H p = none → Q (.ref p) (upd H p (.lst (List.replicate k.toNat xs).flatten))
theorem len_rep {α : Type} (xs : List α) (k : Nat) : (List.replicate k xs).flatten.length = k * xs.length := by
  induction k with
  | zero => simp
  | succ k ih => rw [List.replicate_succ, List.flatten_cons, List.length_append, ih, Nat.succ_mul, Nat.add_comm]
theorem op_rep : OpR X (binaryOp .Mult) rRep := by
  intro pins s σ H x y v u Q I rx ry h
  obtain ⟨l, k, xs, rfl, rfl, hH, h1, h2, hz, q⟩ := h
  cases rx
  obtain ⟨t, rfl⟩ := ry
  obtain ⟨z, its, n, r, hl, e⟩ := I.lstM hH
  have hlen : its.toArray.size * k.toNat ≤ sizeLine := by rw [List.size_toArray, ← hl]; exact hz
  have hcap : ¬ its.toArray.size * k.toNat > (2 ^ 63 - 1) / 8 := by
    have : (sizeLine : Nat) ≤ (2 ^ 63 - 1) / 8 := by decide
    omega
  have hfit : ¬ (!Builtin.List.listFitsIndex k) = true := by
    rw [fitsIndex_both h1 h2]
    exact Bool.false_ne_true
  have hlong : ¬ Builtin.List.listTooLong (its.toArray.size * k.toNat) = true := by
    rw [notLongL hlen]
    exact Bool.false_ne_true
  have hnew : List.foldl (fun x1 x2 => x1 ++ x2) #[] (List.replicate (if its.toArray.isEmpty = true then 0 else k.toNat) its.toArray) = (List.replicate k.toNat its).flatten.toArray := by
    have f0 : ∀ m : Nat, List.foldl (fun x1 x2 => x1 ++ x2) #[] (List.replicate m its.toArray) = (List.replicate m its).flatten.toArray := fun m => by
      have := foldl_rep its m []
      rw [List.nil_append] at this
      exact this
    rw [f0]
    cases its with
    | nil => simp
    | cons a r' => rw [if_neg (by simp)]
  refine wpAny_binaryOp_repeat_ref (T := "list") (U := "int") (by decide) ⟨_, e, rfl⟩ (fun s' => typeIs_int s' k t) noFill_list_mul F.fills_int_mul F.slot_int_rmul repeat_list F.slot_int_index.lookup
    (call_meets F.slot_int_rmul (typeIs_int s k t) F.entry_int_rmul (F.args_int_rmul_2 _ _) (int___rmul___int_list k t l its.toArray n)
      ⟨e, rfl, ⟨_, e, rfl⟩, call_meets F.slot_list_mul ⟨_, e, rfl⟩ F.entry_list_mul (F.args_list_mul_2 _ _) (AutoListH.list___mul___list_int_3 l its.toArray n k t hfit hcap hlong) ⟨e, ?_⟩⟩)
  rw [hnew]
  exact ⟨.ref _, _, I.lnew (t' := s.toks) (r.rep k.toNat) (by rw [len_rep, Nat.mul_comm]; exact hz), rfl, q _ I.fresh⟩

/-! ### del xs[i] -/
end

/-! ### xs[a:b] = ys -/
section
variable {prog : Program} {w : World} {A : Around} {E : Value → Shared → Prop} {s : Shared}
set_option maxRecDepth 100000 in
end

section
variable {X : Cx}
end
end L2

namespace L2
open PySem PySem.Spec PyProof.Rows

theorem Vals.ints : ∀ {ns : List Int} {us : List Value}, Vals (ns.map V.int) us → IntsAre us ns
  | [], us, h => by
    rw [List.map_nil] at h
    cases h
    exact IntsAre.nil
  | n :: ns, us, h => by
    rw [List.map_cons] at h
    cases h with
    | cons r t =>
      obtain ⟨k, rfl⟩ := r
      exact IntsAre.cons n k (Vals.ints t)
theorem vals_of_ints : ∀ {us : List Value} {ns : List Int}, IntsAre us ns → Vals (ns.map V.int) us
  | _, _, .nil => by rw [List.map_nil]; exact Paired.nil
  | _, _, .cons n t h => by rw [List.map_cons]; exact Paired.cons (show RelV (V.int n) (Value.int n t) from ⟨t, rfl⟩) (vals_of_ints h)
theorem Vals.ref1 {a : Addr} {us : List Value} (r : Vals [V.ref a] us) : us = [Value.ref a] := by
  cases r with
  | cons r t =>
    cases t
    cases r
    rfl

/-! ### the library's walks over a list of ints, kept objects alone -/
section
variable {prog : Program} {w : World} {A : Around} {E : Value → Shared → Prop} {s : Shared} {l : Addr} {its : List Value} {ns : List Int} {Q : Value → Shared → Prop}
theorem sum_raw (hh : A.handled = none) (hl : s.heap.IsList l its.toArray) (hi : IntsAre its ns)
    (h : ∀ h' tk t', (∀ b o, s.heap.get? b = some o → h'.get? b = some o) → Q (.int ns.sum t') { s with heap := h', toks := tk }) : wpAny (model prog w) A (call (.builtin "sum") [.ref l]) Q E s := by
  obtain ⟨xs, e⟩ := hi.allInts.items
  have hn : numsOf (intItems xs).toList = ns := by rw [← e]; exact hi.numsOf
  rw [nums_intItems] at hn
  rw [e] at hl
  refine PySem.sum_intListG hh hl fun h' tk t' hk => ?_
  have := h h' tk t' hk
  rw [preSum_eq, List.take_of_length_le (by simp), hn]; exact this
theorem max_raw (hh : A.handled = none) (hl : s.heap.IsList l its.toArray) (hi : IntsAre its ns) (hne : 0 < ns.length)
    (h : ∀ h' tk M t', (∀ b o, s.heap.get? b = some o → h'.get? b = some o) → M ∈ ns → (∀ a, a ∈ ns → a ≤ M) → Q (.int M t') { s with heap := h', toks := tk }) : wpAny (model prog w) A (call (.builtin "max") [.ref l]) Q E s := by
  obtain ⟨xs, e⟩ := hi.allInts.items
  have hn : numsOf (intItems xs).toList = ns := by rw [← e]; exact hi.numsOf
  rw [nums_intItems] at hn
  subst hn
  rw [e] at hl
  have hsz : 0 < xs.size := by simpa using hne
  refine PySem.max_intList hh hl hsz fun v h' tk hv hk => ?_
  obtain ⟨t, rfl⟩ := intItems_at hv
  obtain ⟨h1, h2⟩ := argBest_gt (numAt xs) (xs.size - 1)
  refine h h' tk _ t hk ?_ fun a ha => ?_
  · rw [numAt_eq]; exact PySem.getD_mem (by rw [List.length_map, Array.length_toList]; omega)
  · obtain ⟨j, hj, rfl⟩ := mem_getD ha
    rw [List.length_map, Array.length_toList] at hj
    rw [← numAt_eq]; exact h2 j (by omega)
end

/-! ### the calls, by values (CallR of 03t; MtR of 06l) -/
section
variable {X : Cx}
/-- sum(xs) of a list of ints -/
def rSum (K : PySem.W.Frag) : List V → Hp → VK → Prop := fun vs H Q => ∃ (a : Addr) (ns : List Int), vs = [V.ref a] ∧ SqL K H a (ns.map V.int) ∧ Q (.int ns.sum) H
/-- max(xs), min(xs) of a list of ints -/
def rMax (K : PySem.W.Frag) : List V → Hp → VK → Prop := fun vs H Q => ∃ (a : Addr) (ns : List Int), vs = [V.ref a] ∧ SqL K H a (ns.map V.int) ∧ 0 < ns.length ∧ ∀ m, m ∈ ns → (∀ y, y ∈ ns → y ≤ m) → Q (.int m) H
theorem cr_sum (hc : X.calm = true) : CallR X (.builtin "sum") (rSum X.K) := by
  intro pins s σ H vs us Q I r h
  obtain ⟨a, ns, rfl, hs, q⟩ := h
  obtain ⟨its, rv, hl, _⟩ := I.list hs
  rw [Vals.ref1 r]
  exact sum_raw (I.ok.hd hc) hl.isList rv.ints fun h' tk t' hk => ⟨.int _, H, I.kept hk, ⟨_, rfl⟩, q⟩
theorem cr_max (hc : X.calm = true) : CallR X (.builtin "max") (rMax X.K) := by
  intro pins s σ H vs us Q I r h
  obtain ⟨a, ns, rfl, hs, hne, q⟩ := h
  obtain ⟨its, rv, hl, _⟩ := I.list hs
  rw [Vals.ref1 r]
  exact max_raw (I.ok.hd hc) hl.isList rv.ints hne fun h' tk m t' hk h1 h2 => ⟨.int _, H, I.kept hk, ⟨_, rfl⟩, q m h1 h2⟩

/-! sorted, sort (fewer than 64 items: the library's own bound) -/
def rSorted (K : PySem.W.Frag) : List V → Hp → VK → Prop := fun vs H Q => ∃ (a : Addr) (ns : List Int), vs = [V.ref a] ∧ SqL K H a (ns.map V.int) ∧ ns.length < 64 ∧
  ∀ (ns' : List Int) (p : Addr), ns'.Perm ns → ns'.Pairwise (· ≤ ·) → H p = none → Q (.ref p) (upd H p (.lst (ns'.map V.int)))
theorem small64 {n : Nat} (h : n < 64) : n ≤ sizeLine := by rw [sizeLine_eq]; omega
theorem cr_sorted : CallR X (.builtin "sorted") (rSorted X.K) := by
  intro pins s σ H vs us Q I r h
  obtain ⟨a, ns, rfl, hs, h64, q⟩ := h
  obtain ⟨its, rv, hl, _⟩ := I.list hs
  rw [Vals.ref1 r]
  have hi := rv.ints
  refine PyProof.Rows.sorted_ints hl.isList hi (by rw [hi.length]; exact h64) fun out ns' h1 h2 h3 => ?_
  obtain ⟨ep, he'⟩ := PyProof.Rows.sortedAll_at s.heap its out
  have hlen : (ns'.map V.int).length ≤ sizeLine := by rw [List.length_map, h2.length_eq]; exact small64 h64
  exact ⟨.ref _, upd H (s.heap.objs.size + 1) (.lst (ns'.map V.int)), I.laid (t' := s.toks) (fun _ _ => PyProof.Rows.sortedAll_old) (Nat.le_succ _) ⟨hlen, out.toList, ep, vals_of_ints h1, he'⟩, rfl, q ns' _ h2 h3 (I.hok.fresh (Nat.le_succ _))⟩
end

/-! ### list.index, flat items -/
section
variable {X : Cx}
def rIndex (K : PySem.W.Frag) : V → List V → Hp → VK → Prop := fun x xs H Q => ∃ (a : Addr) (ys : List V) (y : V) (j : Nat) (z : V), x = V.ref a ∧ xs = [y] ∧ SqL K H a ys ∧ flatV y = true ∧ ys.all flatV = true ∧ ys[j]? = some z ∧ eqV z y = true ∧
  (∀ (m : Nat) (z' : V), m < j → ys[m]? = some z' → eqV z' y = false) ∧ Q (.int (j : Nat)) H
theorem flat_at {ys : List V} (f : ys.all flatV = true) {j : Nat} {z : V} (h : ys[j]? = some z) : flatV z = true := List.all_eq_true.mp f z (List.mem_of_getElem? h)
theorem mt_index : MtR X "list.index" (rIndex X.K) := by
  intro pins s σ H x xs v us Q I rx rxs h
  obtain ⟨a, ys, y, j, z, rfl, rfl, hs, fy, fys, hz, hzj, hno, q⟩ := h
  cases rx
  cases rxs with
  | cons ry rt =>
    rename_i uy ut
    cases rt
    obtain ⟨its, rv, ⟨⟨cls, dd, data, sl⟩, n, ho, hc, hdn, hd⟩, hlen⟩ := I.list hs
    simp only at hc hd
    subst hc hd
    obtain ⟨u, hu, ru⟩ := rv.get hz
    obtain ⟨hjl, hje⟩ := List.getElem?_eq_some_iff.mp hu
    have hvl := rv.length
    have hj : j < its.toArray.size := by simpa using hjl
    have hsl := sizeLine_eq
    refine call_meets PySem.F.slot_list_index ⟨_, ho, rfl⟩ PySem.F.entry_list_index (PySem.F.args_list_index_2 _ _)
      (SeqAt.list_indexAt a its.toArray n dd sl uy (eqU y) j hj (by omega) ?_ ?_) ⟨ho, fun u' hu' => mem_eqAt ry fy rv fys u' (by simpa using hu'), ?_⟩
    · have e1 : its.toArray[j] = u := by simpa using hje
      rw [e1, eqU_of ru (flat_at fys hz)]
      exact hzj
    · intro m hm hmj
      have hml : m < its.length := by simpa using hm
      have hmy : m < ys.length := by omega
      have hy' : ys[m]? = some ys[m] := List.getElem?_eq_getElem hmy
      obtain ⟨u2, hu2, ru2⟩ := rv.get hy'
      obtain ⟨_, hme⟩ := List.getElem?_eq_some_iff.mp hu2
      have e1 : its.toArray[m] = u2 := by simpa using hme
      rw [e1, eqU_of ru2 (flat_at fys hy')]
      exact hno m _ hmj hy'
    · exact ⟨.int (j : Nat), H, I.tok _, ⟨_, rfl⟩, q⟩
end

/-! ### type(x) of an own instance; is, is not of a module's class -/
section
variable {X : Cx}
end

/-! ### any(xs), all(xs) of a list of bools -/
section
variable {X : Cx}
end

/-! ### == and != of data at any depth: none, bools, ints, texts, lists, tuples -/
mutual
inductive Dp (K : PySem.W.Frag) (H : Hp) : V → PyData → Prop
  | non : Dp K H .non .none
  | bl (b : Bool) : Dp K H (.bl b) (.bool b)
  | int (i : Int) : Dp K H (.int i) (.int i)
  | str (x : Str) : Dp K H (.str x) (.str x)
  | lst {a : Addr} {xs : List V} {ds : List PyData} : SqL K H a xs → DpAll K H xs ds → Dp K H (.ref a) (.list ds)
  | tup {a : Addr} {xs : List V} {ds : List PyData} : SqT K H a xs → DpAll K H xs ds → Dp K H (.ref a) (.tuple ds)
inductive DpAll (K : PySem.W.Frag) (H : Hp) : List V → List PyData → Prop
  | nil : DpAll K H [] []
  | cons {v : V} {vs : List V} {d : PyData} {ds : List PyData} : Dp K H v d → DpAll K H vs ds → DpAll K H (v :: vs) (d :: ds)
end
section
variable {X : Cx} {pins : List (Addr × Obj)} {σ : St} {H : Hp} {s : Shared}
mutual
theorem Dp.reads (I : Inv X pins σ H s) : ∀ (d : PyData) (v : V) (u : Value), Dp X.K H v d → RelV v u → ∃ as, Reads s.heap u d as
  | .none, _, _, h, r => by
    cases h
    cases r
    exact ⟨_, Reads.none⟩
  | .bool b, _, _, h, r => by
    cases h
    cases r
    exact ⟨_, Reads.bool b⟩
  | .int i, _, _, h, r => by
    cases h
    obtain ⟨t, rfl⟩ := r
    exact ⟨_, Reads.int i t⟩
  | .str x, _, _, h, r => by
    cases h
    obtain ⟨t, rfl⟩ := r
    exact ⟨_, Reads.str x t⟩
  | .list ds, _, _, h, r => by
    cases h with
    | lst hs ha =>
      cases r
      obtain ⟨its, rv, ⟨o, n, ho, hc, _, hd⟩, _⟩ := I.list hs
      obtain ⟨as, hr⟩ := Dp.readsAll I ds _ its ha rv
      exact ⟨_, Reads.list ho hc hd hr⟩
  | .tuple ds, _, _, h, r => by
    cases h with
    | tup hs ha =>
      cases r
      obtain ⟨its, rv, ⟨o, ho, hc, n, hd⟩, _⟩ := I.tuple hs
      obtain ⟨as, hr⟩ := Dp.readsAll I ds _ its ha rv
      exact ⟨_, Reads.tuple ho hc hd hr⟩
  | .dict _, _, _, h, _ => by cases h
theorem Dp.readsAll (I : Inv X pins σ H s) : ∀ (ds : List PyData) (vs : List V) (us : List Value), DpAll X.K H vs ds → Vals vs us → ∃ as, ReadsAll s.heap us ds as
  | [], _, _, h, r => by
    cases h
    cases r
    exact ⟨_, ReadsAll.nil⟩
  | d :: ds, _, _, h, r => by
    cases h with
    | cons h1 h2 =>
      cases r with
      | cons r1 r2 =>
        obtain ⟨as, q1⟩ := Dp.reads I d _ _ h1 r1
        obtain ⟨bs, q2⟩ := Dp.readsAll I ds _ _ h2 r2
        exact ⟨_, ReadsAll.cons q1 q2⟩
end
end
section
variable {X : Cx}
def rEqD (K : PySem.W.Frag) : R2 := fun x y H Q => ∃ d e, Dp K H x d ∧ Dp K H y e ∧ SeqAt.shaped d = true ∧ SeqAt.shaped e = true ∧ Q (.bl (PyData.eqv d e)) H
theorem op_eqD (hu : X.A.units + 64 < cLine) : OpR X (compareOp .Eq) (rEqD X.K) := by
  intro pins s σ H x y v u Q I rx ry h
  obtain ⟨d, e, hd, he, sd, se, q⟩ := h
  obtain ⟨as, r1⟩ := Dp.reads I d x v hd rx
  obtain ⟨bs, r2⟩ := Dp.reads I e y u he ry
  exact SeqAt.compareEq_shaped r1 r2 sd se hu ⟨.bl _, H, I, rfl, q⟩
end
end L2

namespace L2
open PySem PySem.Spec PyProof.Rows
abbrev CellAt (h : Heap) (c : Addr) (v : Option Value) : Prop := h.IsCell c v
def relS (scope sc : Scope) : Scope :=
  { scope with names := scope.names.map fun (n, k) => if (k == .free && sc.kind == .function && sc.names.lookup n == some .cell) then (n, .cell) else (n, k) }

def cloFrom (cells : List (Str × Addr)) : List (Str × NameKind) → List (Str × Addr) → List (Str × Addr)
  | [], acc => acc
  | (n, k) :: r, acc => if k == .free then cloFrom cells r ((n, (cells.lookup n).getD 0) :: acc) else cloFrom cells r acc

theorem closure_loop (env : Env) (f : Str × NameKind → List (Str × Addr) → Sem (ForInStep (List (Str × Addr))))
    (hf : ∀ n k c, f (n, k) c = if k == .free then (do let a ← cellOf env n; pure (.yield ((n, a) :: c))) else pure (.yield c)) :
    ∀ (names : List (Str × NameKind)) (acc : List (Str × Addr)), (∀ y ∈ names, y.2 = .free → ∃ c, env.cells.lookup y.1 = some c) → forIn names acc f = pure (cloFrom env.cells names acc)
  | [], acc, _ => by rw [List.forIn_nil]; rfl
  | (n, k) :: r, acc, h => by
    rw [List.forIn_cons, hf]
    have ih := fun acc => closure_loop env f hf r acc fun y hy => h y (List.mem_cons_of_mem _ hy)
    unfold cloFrom
    by_cases hk : (k == NameKind.free) = true
    · rw [if_pos hk, if_pos hk]
      obtain ⟨c, hc⟩ := h (n, k) List.mem_cons_self (by simpa using hk)
      have e : cellOf env n = pure c := by unfold cellOf; rw [hc]
      rw [e]
      have e2 : (env.cells.lookup n).getD 0 = c := by rw [hc]; rfl
      rw [e2]
      exact ih _
    · rw [if_neg hk, if_neg hk]
      exact ih _
theorem closure_ok {scope : Scope} {env : Env} (h : ∀ y ∈ scope.names, y.2 = .free → ∃ c, env.cells.lookup y.1 = some c) : closureFor scope env = pure (cloFrom env.cells scope.names []) := by
  simp only [closureFor]
  rw [closure_loop env _ (fun n k c => rfl) scope.names [] h]
  rfl

theorem mem_lookup {α : Type} : ∀ {l : List (Str × α)} {n : Str} {c : α}, (n, c) ∈ l → ∃ c', l.lookup n = some c'
  | (k, v) :: r, n, c, h => by
    rw [List.lookup_cons]
    cases hb : n == k with
    | true => exact ⟨_, rfl⟩
    | false =>
      rcases List.mem_cons.mp h with e | h
      · cases e; simp at hb
      · exact mem_lookup h

theorem cloFrom_mem {cells : List (Str × Addr)} : ∀ {names : List (Str × NameKind)} {acc : List (Str × Addr)} {n : Str} {c : Addr}, (n, c) ∈ cloFrom cells names acc → (n, c) ∈ acc ∨ ((n, .free) ∈ names ∧ c = (cells.lookup n).getD 0)
  | [], _, _, _, h => .inl h
  | (m, k) :: r, acc, n, c, h => by
    unfold cloFrom at h
    split at h
    · rename_i hk
      have hk : k = .free := by simpa using hk
      rcases cloFrom_mem h with h | ⟨h1, h2⟩
      · rcases List.mem_cons.mp h with e | h
        · cases e; exact .inr ⟨hk ▸ List.mem_cons_self, rfl⟩
        · exact .inl h
      · exact .inr ⟨List.mem_cons_of_mem _ h1, h2⟩
    · rcases cloFrom_mem h with h | ⟨h1, h2⟩
      · exact .inl h
      · exact .inr ⟨List.mem_cons_of_mem _ h1, h2⟩
theorem cloFrom_acc {cells : List (Str × Addr)} : ∀ {names : List (Str × NameKind)} {acc : List (Str × Addr)} {p : Str × Addr}, p ∈ acc → p ∈ cloFrom cells names acc
  | [], _, _, h => h
  | (m, k) :: r, acc, p, h => by
    unfold cloFrom
    split
    · exact cloFrom_acc (List.mem_cons_of_mem _ h)
    · exact cloFrom_acc h
theorem cloFrom_has {cells : List (Str × Addr)} : ∀ {names : List (Str × NameKind)} {acc : List (Str × Addr)} {n : Str}, (n, .free) ∈ names → (n, (cells.lookup n).getD 0) ∈ cloFrom cells names acc
  | (m, k) :: r, acc, n, h => by
    unfold cloFrom
    rcases List.mem_cons.mp h with e | h
    · cases e
      exact cloFrom_acc List.mem_cons_self
    · split
      · exact cloFrom_has h
      · exact cloFrom_has h

theorem cells_mem : ∀ {names : List (Str × NameKind)} {h : Heap} {acc : List (Str × Addr)} {x : Str} {c : Addr}, (x, c) ∈ cellsFrom h.objs.size names acc →
    (x, c) ∈ acc ∨ ((x, .cell) ∈ names ∧ h.objs.size ≤ c ∧ CellAt (pushCells h names) c none)
  | [], _, _, _, _, h => .inl h
  | (n, k) :: r, h, acc, x, c, hm => by
    unfold cellsFrom at hm
    unfold pushCells
    split at hm
    · rename_i hk
      rw [if_pos hk]
      have hk : k = .cell := by simpa using hk
      rw [← Heap.size_push h { cls := .type "cell", data := .cell none }] at hm
      rcases cells_mem hm with hm | ⟨h1, h2, h3⟩
      · rcases List.mem_cons.mp hm with e | hm
        · cases e
          exact .inr ⟨hk ▸ List.mem_cons_self, Nat.le_refl _, _, pushCells_keeps r _ _ _ (Heap.get?_push_size _ rfl), rfl⟩
        · exact .inl hm
      · rw [Heap.size_push] at h2
        exact .inr ⟨List.mem_cons_of_mem _ h1, Nat.le_of_succ_le h2, h3⟩
    · rename_i hk
      rw [if_neg hk]
      rcases cells_mem hm with hm | ⟨h1, h2, h3⟩
      · exact .inl hm
      · exact .inr ⟨List.mem_cons_of_mem _ h1, h2, h3⟩
theorem cells_acc : ∀ {names : List (Str × NameKind)} {n : Nat} {acc : List (Str × Addr)} {p : Str × Addr}, p ∈ acc → p ∈ cellsFrom n names acc
  | [], _, _, _, h => h
  | (m, k) :: r, n, acc, p, h => by
    unfold cellsFrom
    split
    · exact cells_acc (List.mem_cons_of_mem _ h)
    · exact cells_acc h
theorem cells_has : ∀ {names : List (Str × NameKind)} {n : Nat} {acc : List (Str × Addr)} {x : Str}, (x, .cell) ∈ names → ∃ c, (x, c) ∈ cellsFrom n names acc
  | (m, k) :: r, n, acc, x, h => by
    unfold cellsFrom
    rcases List.mem_cons.mp h with e | h
    · cases e
      exact ⟨n, cells_acc List.mem_cons_self⟩
    · split
      · exact cells_has h
      · exact cells_has h
theorem cells_inj : ∀ {names : List (Str × NameKind)} {h : Heap} {acc : List (Str × Addr)} {x y : Str} {c : Addr}, (∀ p ∈ acc, p.2 < h.objs.size) → (∀ x y c, (x, c) ∈ acc → (y, c) ∈ acc → x = y) →
    (x, c) ∈ cellsFrom h.objs.size names acc → (y, c) ∈ cellsFrom h.objs.size names acc → x = y
  | [], _, _, _, _, _, _, hi, h1, h2 => hi _ _ _ h1 h2
  | (n, k) :: r, h, acc, x, y, c, hl, hi, h1, h2 => by
    unfold cellsFrom at h1 h2
    split at h1
    · rename_i hk
      rw [if_pos hk] at h2
      rw [← Heap.size_push h { cls := .type "cell", data := .cell none }] at h1 h2
      refine cells_inj (h := h.push _) (fun p hp => ?_) (fun x y c a b => ?_) h1 h2
      · rw [Heap.size_push]
        rcases List.mem_cons.mp hp with rfl | hp
        · exact Nat.lt_succ_self _
        · exact Nat.lt_succ_of_lt (hl p hp)
      · rcases List.mem_cons.mp a with e | a <;> rcases List.mem_cons.mp b with e' | b
        · cases e; cases e'; rfl
        · cases e; exact absurd (hl _ b) (Nat.lt_irrefl _)
        · cases e'; exact absurd (hl _ a) (Nat.lt_irrefl _)
        · exact hi _ _ _ a b
    · rename_i hk
      rw [if_neg hk] at h2
      exact cells_inj hl hi h1 h2

theorem newEnv_comp {M : Model} {A : Around} {E : Value → Shared → Prop} {s : Shared} {scope : Scope} {globals : Addr} {closure : List (Str × Addr)} {qual : Str} {func : Option Addr} {code : Value} {around : Env} {builtins : Addr} {Q : Env → Shared → Prop}
    (h : Q (newEnv scope s.heap.objs.size globals (cellsFrom (s.heap.objs.size + 1) scope.names closure) qual func code (some around) builtins)
      { s with heap := pushCells (s.heap.push { cls := .type "dict", data := .dict #[] }) scope.names }) :
    wpAny M A (newFunctionEnv scope globals closure [] qual func code (some around) builtins) Q E s := by
  simp only [newFunctionEnv, Option.isSome_some, if_true]
  refine wpAny_bind (wpAny_alloc ?_)
  refine wpAny_bind (wpAny_layCells _ (fun n k c => rfl) scope.names closure _ _ ?_)
  rw [show ({ s with heap := s.heap.push { cls := .type "dict", data := .dict #[] } } : Shared).heap.objs.size = s.heap.objs.size + 1 from Heap.size_push ..]
  rw [List.forIn_nil]
  exact wpAny_bind (wpAny_pure (wpAny_pure h))

/-- every name of the written scope, in the scope that runs -/
theorem lookup_relS {sc : Scope} : ∀ {names : List (Str × NameKind)} {x : Str} {k : NameKind},
    (names.map fun (n, k) => if (k == NameKind.free && sc.kind == .function && sc.names.lookup n == some .cell) then (n, NameKind.cell) else (n, k)).lookup x = some k →
    ∃ k', names.lookup x = some k' ∧ (k = k' ∨ (k' = .free ∧ k = .cell))
  | [], _, _, h => by simp at h
  | (n, k₀) :: r, x, k, h => by
    have ih := @lookup_relS sc r x k
    have h' : List.lookup x ((if (k₀ == NameKind.free && sc.kind == .function && sc.names.lookup n == some .cell) = true then (n, NameKind.cell) else (n, k₀)) :: (r.map _)) = some k := h
    cases hx : x == n with
    | true =>
      simp only [List.lookup_cons, hx]
      by_cases hc : (k₀ == NameKind.free && sc.kind == .function && sc.names.lookup n == some .cell) = true
      · rw [if_pos hc] at h'
        simp only [List.lookup_cons, hx] at h'
        cases h'
        simp only [Bool.and_eq_true, beq_iff_eq] at hc
        exact ⟨k₀, rfl, .inr ⟨hc.1.1, rfl⟩⟩
      · rw [if_neg hc] at h'
        simp only [List.lookup_cons, hx] at h'
        cases h'
        exact ⟨_, rfl, .inl rfl⟩
    | false =>
      simp only [List.lookup_cons, hx]
      by_cases hc : (k₀ == NameKind.free && sc.kind == .function && sc.names.lookup n == some .cell) = true
      · rw [if_pos hc] at h'
        simp only [List.lookup_cons, hx] at h'
        exact ih h'
      · rw [if_neg hc] at h'
        simp only [List.lookup_cons, hx] at h'
        exact ih h'



/-- the names of a comprehension's block: its own (with their places in N), or captured -/
structure BlkOk (N : List Str) (sc scope : Scope) (own : List (Str × Nat)) : Prop where
  kind : scope.kind = .function
  uniq : ∀ y ∈ scope.names, scope.names.lookup y.1 = some y.2
  ix : ∀ p ∈ own, N[p.2]? = some p.1
  free : ∀ y ∈ scope.names, y.2 = .free → sc.names.lookup y.1 = some .cell ∨ sc.names.lookup y.1 = some .free
  own : ∀ y ∈ scope.names, y.2 = .local ∨ y.2 = .cell → y.1 ∈ own.map (·.1) ∨ y.1 ∉ N
/-- the slots of the block's own names forgotten -/
def wipe (σ : St) : List Nat → St
  | [] => σ
  | v :: vs => (wipe σ vs).set v none
theorem wipe_length (σ : St) : ∀ vs : List Nat, (wipe σ vs).length = σ.length
  | [] => rfl
  | v :: vs => by unfold wipe; rw [List.length_set, wipe_length σ vs]
theorem wipe_some {σ : St} {i : Nat} {x : V} : ∀ {vs : List Nat}, (wipe σ vs)[i]? = some (some x) → σ[i]? = some (some x) ∧ i ∉ vs
  | [], h => ⟨h, by simp⟩
  | v :: vs, h => by
    unfold wipe at h
    by_cases hi : v = i
    · subst hi
      by_cases hv : v < (wipe σ vs).length
      · rw [List.getElem?_set_self hv] at h; cases h
      · rw [List.getElem?_eq_none (by simpa using hv)] at h; cases h
    · rw [List.getElem?_set_ne hi] at h
      obtain ⟨h1, h2⟩ := wipe_some h
      exact ⟨h1, by simp only [List.mem_cons, not_or]; exact ⟨fun e => hi e.symm, h2⟩⟩

/-- the context of a block that starts at s, its iterator's objects at fp -/
abbrev Cx.blk (X : Cx) (s : Shared) (H : Hp) (scope : Scope) (cenv : Env) (fp : List Addr) : Cx := { X with s₀ := s, H₀ := H, env := cenv, outer := X.stack, ex := fp, fn := fun x => scope.names.lookup x == some .cell, pn := [], xe := fun _ _ => False }
section
variable {X : Cx} {pins : List (Addr × Obj)} {σ : St} {H : Hp} {s : Shared}
theorem block_start {scope : Scope} {own : List (Str × Nat)} {fp : List Addr} (I : Inv X pins σ H s) (ok : BlkOk X.N X.env.scope scope own) (hN : X.N.Nodup) (hfp : ∀ b ∈ fp, FpOk X pins H b ∧ b < s.heap.objs.size) :
    Inv (X.blk s H scope (compEnvC scope (cellsFrom (s.heap.objs.size + 1) scope.names (cloFrom X.env.cells scope.names [])) s.heap.objs.size X.env) fp) [] (wipe σ (own.map (·.2))) H { s with heap := pushCells (s.heap.push { cls := .type "dict", data := .dict #[] }) scope.names } := by
  have hfree : ∀ y ∈ scope.names, y.2 = .free → ∃ c, X.env.cells.lookup y.1 = some c := fun y hy e => by
    rcases ok.free y hy e with k | k
    · exact I.ok.has _ (.inl k)
    · exact I.ok.has _ (.inr k)
  generalize hcenv : compEnvC scope (cellsFrom (s.heap.objs.size + 1) scope.names (cloFrom X.env.cells scope.names [])) s.heap.objs.size X.env = cenv
  have kp : ∀ b o, s.heap.get? b = some o → (pushCells (s.heap.push { cls := .type "dict", data := .dict #[] }) scope.names).get? b = some o := fun b o e => pushCells_keeps _ _ _ _ (Heap.get?_push_of_some _ e)
  have hL : cenv.locals = s.heap.objs.size := by rw [← hcenv]; rfl
  have hcl : cenv.cells = cellsFrom (s.heap.objs.size + 1) scope.names (cloFrom X.env.cells scope.names []) := by rw [← hcenv]; rfl
  have hsc : cenv.scope = relS scope X.env.scope := by rw [← hcenv]; rfl
  rw [← Heap.size_push s.heap { cls := .type "dict", data := .dict #[] }] at hcl
  have cm : ∀ {y c}, (y, c) ∈ cloFrom X.env.cells scope.names [] → X.env.cells.lookup y = some c ∧ c < s.heap.objs.size := fun {y c} hm => by
    rcases cloFrom_mem hm with hm | ⟨h1, rfl⟩
    · cases hm
    · obtain ⟨c, hc⟩ := hfree _ h1 rfl
      rw [hc]
      obtain ⟨w, z⟩ := I.cell _ _ hc
      exact ⟨rfl, z.lt⟩
  have mem : ∀ {y c}, cenv.cells.lookup y = some c → (X.env.cells.lookup y = some c ∧ c < s.heap.objs.size) ∨ (s.heap.objs.size + 1 ≤ c ∧ CellAt (pushCells (s.heap.push { cls := .type "dict", data := .dict #[] }) scope.names) c none) := fun {y c} e => by
    rw [hcl] at e
    rcases cells_mem (PySem.mem_of_lookup e) with hm | ⟨_, h2, h3⟩
    · exact .inl (cm hm)
    · rw [Heap.size_push] at h2; exact .inr ⟨h2, h3⟩
  have look : ∀ {y}, scope.names.lookup y = some .free → ∃ c, cenv.cells.lookup y = some c ∧ X.env.cells.lookup y = some c := fun {y} hl => by
    have hy : (y, NameKind.free) ∈ scope.names := PySem.mem_of_lookup hl
    obtain ⟨c', e'⟩ := mem_lookup (cells_acc (names := scope.names) (n := (s.heap.push { cls := .type "dict", data := .dict #[] }).objs.size) (cloFrom_has (cells := X.env.cells) (acc := []) hy))
    rw [← hcl] at e'
    refine ⟨c', e', ?_⟩
    rw [hcl] at e'
    rcases cells_mem (PySem.mem_of_lookup e') with hm | ⟨h1, _, _⟩
    · exact (cm hm).1
    · have := ok.uniq _ h1
      rw [hl] at this; cases this
  have okB : (X.blk s H scope cenv fp).Ok := by
    refine ⟨I.ok.mod, by show cenv.scope.kind = _; rw [hsc]; exact ok.kind, by show cenv.globals = _; rw [← hcenv]; exact I.ok.glob, by show cenv.builtins = _; rw [← hcenv]; exact I.ok.blt, by show s.heap.objs.size ≤ cenv.locals; rw [hL]; exact Nat.le_refl _,
      fun y z c e1 e2 => ?_, fun y hy => ?_, fun y c z e => ?_, I.ok.hd, I.ok.frames, .inl rfl, fun b hb => ⟨?_, fun y c e z => ?_⟩, I.bs, Nat.le_trans I.ok.bsz I.sz, fun b o e hb => ?_, fun b hb z => ?_, I.stack, I.stkFree⟩
    · have e1 : cenv.cells.lookup y = some c := e1
      have e2 : cenv.cells.lookup z = some c := e2
      rw [hcl] at e1 e2
      refine cells_inj (fun p hp => ?_) (fun y z c a b => I.ok.inj y z c (cm a).1 (cm b).1) (PySem.mem_of_lookup e1) (PySem.mem_of_lookup e2)
      rw [Heap.size_push]
      exact Nat.lt_succ_of_lt (cm (y := p.1) (c := p.2) hp).2
    · show ∃ c, cenv.cells.lookup y = some c
      have key : ∀ k, cenv.kindOf y = some k → (k = .cell ∨ k = .free) → ∃ c, cenv.cells.lookup y = some c := fun k hk hk' => by
        unfold Env.kindOf at hk
        rw [hsc] at hk
        obtain ⟨k', e, r⟩ := lookup_relS hk
        have : k' = .cell ∨ k' = .free := by
          rcases r with rfl | ⟨rfl, _⟩
          · exact hk'
          · exact .inr rfl
        rcases this with rfl | rfl
        · obtain ⟨c, hm⟩ := cells_has (n := (s.heap.push { cls := .type "dict", data := .dict #[] }).objs.size) (acc := cloFrom X.env.cells scope.names []) (PySem.mem_of_lookup e)
          obtain ⟨c', e'⟩ := mem_lookup hm
          exact ⟨c', by rw [hcl]; exact e'⟩
        · obtain ⟨c, h1, _⟩ := look e
          exact ⟨c, h1⟩
      rcases hy with hy | hy
      · exact key _ hy (.inl rfl)
      · exact key _ hy (.inr rfl)
    · have z : (scope.names.lookup y == some NameKind.cell) = true := z
      have z : scope.names.lookup y = some .cell := by simpa using z
      have e : cenv.cells.lookup y = some c := e
      rw [hcl] at e
      rcases cells_mem (PySem.mem_of_lookup e) with hm | ⟨_, h2, _⟩
      · rcases cloFrom_mem hm with hm | ⟨h1, _⟩
        · cases hm
        · have q := ok.uniq _ h1
          rw [z] at q; cases q
      · rw [Heap.size_push] at h2
        exact Nat.le_of_succ_le h2
    · show b ≠ cenv.locals
      rw [hL]; exact Nat.ne_of_lt (hfp b hb).2
    · have e : cenv.cells.lookup y = some c := e
      rcases mem e with ⟨h1, _⟩ | ⟨h1, _⟩
      · exact (hfp b hb).1.2.2.2.2.1 y c h1 z
      · have h2 : s.heap.objs.size + 1 ≤ b := by rw [← z]; exact h1
        exact absurd (Nat.lt_of_lt_of_le (hfp b hb).2 (Nat.le_of_succ_le h2)) (Nat.lt_irrefl _)
    · rcases (hfp b hb).1.2.2.2.1 with z | z
      · exact I.ok.noex b o e z
      · exact absurd (Nat.lt_of_lt_of_le (Heap.lt_size e) (Nat.le_trans I.ok.bsz z)) (Nat.lt_irrefl _)
    · rcases List.mem_cons.mp (I.stkSub b z) with z | z
      · exact (hfp b hb).1.2.1 z
      · exact (hfp b hb).1.2.2.1 z
  refine ⟨okB, rfl, I.bare, Un.kept kp, ⟨fun _ => none, ?_, fun i y av e1 e2 e3 => ?_⟩, fun y c e => ?_, ?_, fun y c e => ?_, fun p hp => ?_, I.hok.kept kp, by rw [wipe_length]; exact I.len⟩
  · show Heap.Ns _ cenv.locals _
    rw [hL]
    exact Heap.Ns.keeps (Heap.Ns.new ..) fun b o e => pushCells_keeps _ _ _ _ e
  · obtain ⟨e2, hne⟩ := wipe_some e2
    have hfr : scope.names.lookup y = some .free ∧ (cenv.kindOf y = some .cell ∨ cenv.kindOf y = some .free) := by
      have key : ∀ k, cenv.scope.names.lookup y = some k → k = .local ∨ k = .cell ∨ k = .free → scope.names.lookup y = some .free ∧ (cenv.kindOf y = some .cell ∨ cenv.kindOf y = some .free) := fun k hk hk' => by
        have hk0 := hk
        rw [hsc] at hk
        obtain ⟨k', e, r⟩ := lookup_relS hk
        have no : ¬ (k' = .local ∨ k' = .cell) := fun hh => by
          rcases ok.own _ (PySem.mem_of_lookup e) hh with e' | e'
          · obtain ⟨p, hp, hpy⟩ := List.mem_map.mp e'
            have e3 := ok.ix p hp
            have : p.1 = y := hpy
            rw [this] at e3
            exact hne (List.mem_map.mpr ⟨p, hp, nodup_ix hN e3 e1⟩)
          · exact e' (List.mem_of_getElem? e1)
        rcases r with rfl | ⟨rfl, rfl⟩
        · rcases hk' with rfl | rfl | rfl
          · exact absurd (.inl rfl) no
          · exact absurd (.inr rfl) no
          · exact ⟨e, .inr hk0⟩
        · exact ⟨e, .inl hk0⟩
      have e3 : Vis cenv.scope y := e3
      rcases e3 with e3 | e3 | e3
      · exact key _ e3 (.inl rfl)
      · exact key _ e3 (.inr (.inl rfl))
      · exact key _ e3 (.inr (.inr rfl))
    obtain ⟨m, hn, hl⟩ := I.loc
    have hvis : Vis X.env.scope y := (ok.free _ (PySem.mem_of_lookup hfr.1) rfl).elim (fun k => .inr (.inl k)) (fun k => .inr (.inr k))
    obtain ⟨w, r, q⟩ := hl i y av e1 e2 hvis
    refine ⟨w, r, .inr ⟨hfr.2, ?_⟩⟩
    obtain ⟨c, h1, h2⟩ := look hfr.1
    rcases q with ⟨k, _⟩ | ⟨_, c', e', z⟩
    · have k : X.env.scope.names.lookup y = some .local := k
      rcases ok.free _ (PySem.mem_of_lookup hfr.1) rfl with k' | k' <;> rw [show X.env.scope.names.lookup y = _ from k'] at k <;> cases k
    · rw [h2] at e'; cases e'
      exact ⟨c, h1, z.keeps kp⟩
  · have e : cenv.cells.lookup y = some c := e
    rcases mem e with ⟨h1, _⟩ | ⟨_, z⟩
    · obtain ⟨w, z⟩ := I.cell y c h1
      exact ⟨w, z.keeps kp⟩
    · exact ⟨_, z⟩
  · show H cenv.locals = none
    rw [hL]; exact I.hok.fresh (Nat.le_refl _)
  · have e : cenv.cells.lookup y = some c := e
    rcases mem e with ⟨h1, _⟩ | ⟨h1, _⟩
    · exact I.freeC y c h1
    · exact I.hok.fresh (Nat.le_of_succ_le h1)
  · exact absurd (show p ∈ ([] : List (Addr × Obj)) ++ [] from hp) (by simp)

/-- an item appended to a tracked list -/
theorem app_ok {E : Value → Shared → Prop} {D : Addr} {xs : List V} {y : V} {v : Value} {Q : Value → Shared → Prop} (I : Inv X pins σ H s) (hD : H D = some (.lst xs)) (hz : xs.length < sizeLine) (r : RelV y v)
    (h : ∀ s', Inv X pins σ (upd H D (.lst (xs ++ [y]))) s' → Q .none s') : wpAny (model X.prog X.w) X.A (call (.builtin "list.append") [.ref D, v]) Q E s := by
  obtain ⟨hz', its, n, ri, e⟩ := I.hok D _ hD
  have hl := ri.length
  refine append_at (hsz := by rw [List.size_toArray]; omega) e fun h' sb ho' => ?_
  refine h { s with heap := h' } (I.write (t' := s.toks) (by rw [hD]; trivial) (.inl rfl) (fun b u hb q => (sb.2 b hb).trans q) ⟨_, ho'⟩ ⟨by rw [List.length_append]; exact hz, its ++ [v], n + 1, ri.append (.cons r .nil), ?_⟩)
  rw [ho']
  simp

/-- a clause's tests -/
def PTs (X : Cx) (ifs : List Expr) (t : TT) : Prop :=
  ∀ (pins : List (Addr × Obj)) (s : Shared) (σ : St) (H : Hp) (Q : Bool → Hp → Prop), Inv X pins σ H s → t σ H Q →
    wpAny (model X.prog X.w) X.A (forIn ifs true fun c r => if r = true then do let ok ← isTrue c X.env (eval c X.env); pure (ForInStep.yield ok) else pure (ForInStep.yield r)) (TP X pins σ Q) X.xe s
def tYes : TT := fun _ H Q => Q true H
theorem pts_nil : PTs X [] tYes := fun _ _ _ H _ I h => wpAny_tests_nil ⟨H, I, h⟩
end

theorem thnF {α : Type} {t : Sem α} {Q Q' : α → Shared → Prop} {M : Model} {A : Around} {E : Value → Shared → Prop} {s : Shared} (h : wpAny M A t Q (fun _ _ => False) s) (hQ : ∀ a s, Q a s → Q' a s) : wpAny M A t Q' E s := wpAny_mono h hQ fun _ _ z => False.elim z

/-- the loop of a list comprehension's block, the target of any form (codeAny_compLoop_tests asks a target that no tuple goes to; statement and proof follow it, PyProof/CompMap.lean:41-61, with the step letOwnedTupleGo kept) -/
theorem compLoop_any {prog : Program} {w : World} {A : Around} {R : Result → Shared → Prop} {s : Shared} {elt target iter : Expr} {ifs : List Expr} {scope : Scope} {pos : Pos} {it acc : Value} {env : Env} (I : Nat → Shared → Prop)
    (turn : ∀ n s, I n s → wpAny (model prog w) A (pyNext it) (fun r s₁ => match r with
      | none => R (.ok .next) s₁
      | some v => wpAny (model prog w) A (letOwnedTupleGo target it v) (fun _ s₁' => wpAny (model prog w) A (assign target env v) (fun _ s₂ =>
          wpAny (model prog w) A (forIn ifs true fun c r => if r = true then do let ok ← isTrue c env (eval c env); pure (ForInStep.yield ok) else pure (ForInStep.yield r)) (fun ok s₃ =>
            if ok = true then wpAny (model prog w) A (eval elt env) (fun x s₄ =>
              wpAny (model prog w) A (call (.builtin "list.append") [acc, x]) (fun _ s₅ => ∃ m, m < n ∧ I m s₅) (notedBy (model prog w) A env fun e s' => R (.error e) s') s₄) (notedBy (model prog w) A env fun e s' => R (.error e) s') s₃
            else ∃ m, m < n ∧ I m s₃) (notedBy (model prog w) A env fun e s' => R (.error e) s') s₂) (notedBy (model prog w) A env fun e s' => R (.error e) s') s₁') (notedBy (model prog w) A env fun e s' => R (.error e) s') s₁) (notedBy (model prog w) A env fun e s' => R (.error e) s') s)
    (n : Nat) (h : I n s) :
    codeAny (model prog w) A (.compLoop (.ListComp elt [⟨target, iter, ifs, 0⟩] scope pos) 0 it acc env) R s := by
  refine codeAny_loop rfl I (fun n s hI => ?_) n h
  show wpAny _ A ((compTurn (.ListComp elt [⟨target, iter, ifs, 0⟩] scope pos) 0 it acc env).onRaise (fun x => do noteFrame x env; theTreesLotGoes x)) _ _ s
  refine wpAny_noted ?_
  rw [compTurn_list]
  refine wpAny_bind (wpAny_standAt (wpAny_bind (wpAny_mono (turn n s hI) (fun r s₁ h₁ => ?_) fun _ _ h' => h')))
  cases r with
  | none => exact wpAny_pure h₁
  | some v =>
    refine wpAny_bind (wpAny_mono h₁ (fun _ s₁' h₁' => ?_) fun _ _ h' => h')
    refine wpAny_bind (wpAny_mono h₁' (fun _ s₂ h₂ => wpAny_bind (wpAny_mono h₂ (fun ok s₃ h₃ => ?_) fun _ _ h' => h')) fun _ _ h' => h')
    cases ok with
    | false => exact wpAny_pure ⟨rfl, h₃⟩
    | true =>
      exact wpAny_bind (wpAny_bind (wpAny_mono h₃ (fun x s₄ h₄ => wpAny_bind (wpAny_mono h₄ (fun _ s₅ h₅ => wpAny_pure (wpAny_pure ⟨rfl, h₅⟩)) fun _ _ h' => h')) fun _ _ h' => h'))

section
variable {X : Cx}
/-- [elt for target in iter if ..]: D the new list; W by the turn and a measure, Nx what a turn is to reach -/
def tLc (wi : TI) (g : TG) (tt : TT) (te : TE) (vs : List Nat) : TE := fun σ H Q => wi σ H fun J H1 => ∀ D, H1 D = none → ∃ W : Nat → Nat → Hp → Prop, (∃ m, W 0 m (upd H1 D (.lst []))) ∧ ∀ i m H, W i m H →
  (J.stop i H ∧ Q (.ref D) H) ∨ (J.go i H ∧ ∃ Nx : Hp → Prop, (∀ H', Nx H' → ∃ m', m' < m ∧ W (i + 1) m' H') ∧ ∀ x H', J.yld i H x H' → g x (wipe σ vs) H' fun σ2 H2 => wipe σ2 vs = wipe σ vs ∧ tt σ2 H2 fun b H3 =>
    if b = true then te σ2 H3 fun y H4 => ∃ acc, H4 D = some (.lst acc) ∧ acc.length < sizeLine ∧ Nx (upd H4 D (.lst (acc ++ [y]))) else Nx H3)
theorem lc_core {pins : List (Addr × Obj)} {s : Shared} {σ : St} {H : Hp} {Q : VK} {elt tg iter : Expr} {ifs : List Expr} {scope : Scope} {own : List (Str × Nat)} {pos pos' : Pos} {wi : TI} {g : TG} {tt : TT} {te : TE} {use : Option (Value → Sem Unit)} {Qf : Value → Shared → Prop}
    (hc : X.calm = true) (hN : X.N.Nodup) (I : Inv X pins σ H s) (hi : PI X tg iter wi) (ok : BlkOk X.N X.env.scope scope own)
    (hg : ∀ (s : Shared) (H : Hp) (C : Addr) (cl : List (Str × Addr)) (fp : List Addr), PG (X.blk s H scope (compEnvC scope cl C X.env) fp) tg g) (ht : ∀ (s : Shared) (H : Hp) (C : Addr) (cl : List (Str × Addr)) (fp : List Addr), PTs (X.blk s H scope (compEnvC scope cl C X.env) fp) ifs tt)
    (he : ∀ (s : Shared) (H : Hp) (C : Addr) (cl : List (Str × Addr)) (fp : List Addr), PE (X.blk s H scope (compEnvC scope cl C X.env) fp) elt te) (hs : ∀ x, foldedSetIterable iter X.env x = pure x)
    (h : tLc wi g tt te (own.map (·.2)) σ H Q)
    (hRR : ∀ D C s' m H', Inv X pins σ H' s' → Q (.ref D) H' → s'.heap.Ns C m → FpOk X pins H' C → compPost (model X.prog X.w) X.A X.xe use Qf (.ref D) C (.ok .next) s') :
    wpAny (model X.prog X.w) X.A (comprehension (.ListComp elt [⟨tg, iter, ifs, 0⟩] scope pos) scope X.env pos' (newList []) false (eval iter X.env) use) Qf X.xe s := by
  have hfree : ∀ y ∈ scope.names, y.2 = .free → ∃ c, X.env.cells.lookup y.1 = some c := fun y hy e => by
    rcases ok.free y hy e with k | k
    · exact I.ok.has _ (.inl k)
    · exact I.ok.has _ (.inr k)
  refine wpAny_comprehension_free (use := use) rfl hs (closure_ok hfree) ok.kind (fun y hy e => by rw [ok.uniq y hy, e])
    (thn (hi pins s σ H _ I h) fun xv s1 hx => thn hx fun itv s2 h2 => ?_)
  obtain ⟨it, fp, tn, J, H2, e, I2, T, st2, f2, q⟩ := h2
  subst e
  refine wpAny_newObj_type (newEnv_comp ?_) (by show 0 ≤ sizeLine; decide)
  generalize hD : s2.heap.objs.size = D
  have hDn : H2 D = none := I2.hok.fresh (Nat.le_of_eq hD)
  obtain ⟨W, ⟨m0, w0⟩, turn⟩ := q D hDn
  -- the new list
  generalize hs3 : ({ s2 with heap := s2.heap.push { cls := .type "list", data := .seq ([] : List Value).toArray } } : Shared) = s3
  have I3 : Inv X pins σ (upd H2 D (.lst [])) s3 := by
    rw [← hs3]
    refine I2.laid (t' := s2.toks) (fun b o e => Heap.get?_push_of_some _ e) (Nat.le_of_eq hD) ⟨Nat.zero_le _, [], 0, .nil, ?_⟩
    rw [← hD]
    exact Heap.get?_push_size _ rfl
  have h3 : s3.heap = s2.heap.push { cls := .type "list", data := .seq ([] : List Value).toArray } := by rw [← hs3]
  have sz : ∀ b ∈ fp, b < s2.heap.objs.size := fun b hb => by
    obtain ⟨o, e, _⟩ := T.obj _ _ st2 b hb
    exact Heap.lt_size e
  have f3 : ∀ b ∈ fp, FpOk X pins (upd H2 D (.lst [])) b ∧ b < s3.heap.objs.size := fun b hb => by
    have hlt := sz b hb
    refine ⟨⟨?_, (f2 b hb).2⟩, by rw [h3, Heap.size_push]; exact Nat.lt_succ_of_lt hlt⟩
    rw [upd_ne (by rw [← hD]; exact Nat.ne_of_lt hlt)]
    exact (f2 b hb).1
  have st3 : tn 0 s3.heap := T.keep _ _ _ st2 fun b _ o e => by rw [h3]; exact Heap.get?_push_of_some _ e
  have I4 := block_start I3 ok hN f3
  have pg := hg s3 (upd H2 D (.lst [])) s3.heap.objs.size (cellsFrom (s3.heap.objs.size + 1) scope.names (cloFrom X.env.cells scope.names [])) fp
  have pt := ht s3 (upd H2 D (.lst [])) s3.heap.objs.size (cellsFrom (s3.heap.objs.size + 1) scope.names (cloFrom X.env.cells scope.names [])) fp
  have pe := he s3 (upd H2 D (.lst [])) s3.heap.objs.size (cellsFrom (s3.heap.objs.size + 1) scope.names (cloFrom X.env.cells scope.names [])) fp
  show codeAny _ _ (.compStart (.ListComp elt [⟨tg, iter, ifs, 0⟩] scope pos) 0 (.ref it) (.ref D) (compEnvC scope (cellsFrom (s3.heap.objs.size + 1) scope.names (cloFrom X.env.cells scope.names [])) s3.heap.objs.size X.env)) (compPost (model X.prog X.w) X.A X.xe use Qf (.ref D) s3.heap.objs.size) { s3 with heap := pushCells (s3.heap.push { cls := .type "dict", data := .dict #[] }) scope.names }
  have nfp : ∀ b ∈ fp, (upd H2 D (.lst [])) b = none := fun b hb => (f3 b hb).1.1
  generalize hce : compEnvC scope (cellsFrom (s3.heap.objs.size + 1) scope.names (cloFrom X.env.cells scope.names [])) s3.heap.objs.size X.env = ce at I4 pg pt pe ⊢
  have cL : ce.locals = s3.heap.objs.size := by subst hce; rfl
  generalize hH3 : upd H2 D (.lst []) = H3 at I3 I4 pg pt pe w0 nfp f3
  generalize hs4 : ({ s3 with heap := pushCells (s3.heap.push { cls := .type "dict", data := .dict #[] }) scope.names } : Shared) = s4 at I4 ⊢
  have st4 : tn 0 s4.heap := T.keep _ _ _ st3 fun b _ o e => by rw [← hs4]; exact pushCells_keeps _ _ _ _ (Heap.get?_push_of_some _ e)
  have stat : ∀ {σ' : St} {H' : Hp} {s' : Shared}, Inv (X.blk s3 H3 scope ce fp) [] σ' H' s' → (∀ b ∈ fp, H' b = none) → ∀ b ∈ fp, FpOk (X.blk s3 H3 scope ce fp) [] H' b := fun {σ' H' s'} I' hn b hb =>
    ⟨hn b hb, (I'.ok.exf b hb).1, I'.ok.exfs b hb, .inl hb, fun x c e => (I'.ok.exf b hb).2 x c e, fun p hp => absurd (show p ∈ ([] : List (Addr × Obj)) ++ [] from hp) (by simp)⟩
  have loop : codeAny (model X.prog X.w) X.A (.compLoop (.ListComp elt [⟨tg, iter, ifs, 0⟩] scope pos) 0 (.ref it) (.ref D) ce) (compPost (model X.prog X.w) X.A X.xe use Qf (.ref D) s3.heap.objs.size) s4 := by
    refine compLoop_any (fun n s' => ∃ i H', Inv (X.blk s3 H3 scope ce fp) [] (wipe σ (own.map (·.2))) H' s' ∧ tn i s'.heap ∧ (∀ b ∈ fp, H' b = none) ∧ W i n H') ?_ m0 ⟨0, H3, I4, st4, nfp, w0⟩
    rintro n s5 ⟨i, H5, I5, st5, n5, w5⟩
    rcases turn i n H5 w5 with ⟨stop, qq⟩ | ⟨go, Nx, hNx, step⟩
    · have td := T.done (X.blk s3 H3 scope ce fp) rfl rfl rfl hc i [] s5 _ H5 (fun _ _ => False) I5 (stat I5 n5) st5 stop
      refine thnF td fun r s6 ⟨hr, I6⟩ => ?_
      subst hr
      -- back in the def's context
      have I7 : Inv X pins σ H5 s6 := I3.call' (ch := fp) I6.os I6.base I6.hok I6.bare fun b hb => ⟨(f3 b hb).1.2.2.2.1, (f3 b hb).1.2.1, (f3 b hb).1.2.2.2.2.1, (f3 b hb).1.2.2.2.2.2⟩
      have nC : H5 s3.heap.objs.size = none := by
        have z : H5 ce.locals = none := I6.free
        rw [cL] at z
        exact z
      obtain ⟨m, hn, _⟩ := I6.loc
      have hn : s6.heap.Ns ce.locals m := hn
      rw [cL] at hn
      exact hRR D s3.heap.objs.size s6 m H5 I7 qq hn (I3.fpOk (Nat.le_refl _) nC)
    · have ti := T.item (X.blk s3 H3 scope ce fp) rfl rfl rfl hc i [] s5 _ H5 (fun _ _ => False) I5 (stat I5 n5) st5 go
      refine thnF ti fun r s6 ⟨u, hr, h6⟩ => ?_
      subst hr
      refine thnF h6 fun _ s7 ⟨x, H7, I7, r7, y7, st7, n7⟩ => ?_
      have I7' := I7.pinned (stat I7 n7) (T.obj _ _ st7)
      refine thnF (pg _ s7 _ H7 x u _ I7' r7 (step x H7 y7)) fun _ s8 ⟨σ8, H8, I8, hw8, q8⟩ => ?_
      refine thnF (pt _ s8 σ8 H8 _ I8 q8) fun b s9 ⟨H9, I9, q9⟩ => ?_
      -- the turn's end
      have fin : ∀ {s' : Shared} {H' : Hp}, Inv (X.blk s3 H3 scope ce fp) ([] ++ pinsAt fp s7.heap) σ8 H' s' → Nx H' → ∃ m, m < n ∧ ∃ i H', Inv (X.blk s3 H3 scope ce fp) [] (wipe σ (own.map (·.2))) H' s' ∧ tn i s'.heap ∧ (∀ b ∈ fp, H' b = none) ∧ W i m H' := fun {s' H'} I' nx => by
        obtain ⟨m', hm, w'⟩ := hNx H' nx
        have pin' : ∀ b ∈ fp, ∀ o, s7.heap.get? b = some o → s'.heap.get? b = some o ∧ H' b = none := fun b hb o e =>
          let z := I'.pin (b, o) (List.mem_append_right _ (List.mem_append_right _ (mem_pinsAt hb e)))
          ⟨z.1, z.2.1⟩
        have hl : (wipe σ (own.map (·.2))).length = σ8.length := by rw [← hw8, wipe_length]
        refine ⟨m', hm, i + 1, H', (I'.unpinned (pins := [])).weak hl (fun j v e => ?_), T.keep _ _ _ st7 fun b hb o e => (pin' b hb o e).1, fun b hb => ?_, w'⟩
        · rw [← hw8] at e
          exact (wipe_some e).1
        · obtain ⟨o, e, _⟩ := T.obj _ _ st7 b hb
          exact (pin' b hb o e).2
      cases b with
      | false =>
        simp only [Bool.false_eq_true, if_false] at q9 ⊢
        exact fin I9 q9
      | true =>
        simp only [if_true] at q9 ⊢
        refine thnF (pe _ s9 σ8 H9 _ I9 q9) fun z s10 ⟨yv, H10, I10, r10, acc, hD10, hz10, nx⟩ => ?_
        exact app_ok (X := X.blk s3 H3 scope ce fp) I10 hD10 hz10 r10 fun s11 I11 => fin I11 nx
  exact codeAny_compStart_list loop (T.self X.A 0 _ _ _ st4 loop)
/-- as a value -/
theorem pe_lc {elt tg iter : Expr} {ifs : List Expr} {scope : Scope} {own : List (Str × Nat)} {pos : Pos} {wi : TI} {g : TG} {tt : TT} {te : TE} (hc : X.calm = true) (hN : X.N.Nodup) (hi : PI X tg iter wi) (ok : BlkOk X.N X.env.scope scope own)
    (hg : ∀ (s : Shared) (H : Hp) (C : Addr) (cl : List (Str × Addr)) (fp : List Addr), PG (X.blk s H scope (compEnvC scope cl C X.env) fp) tg g) (ht : ∀ (s : Shared) (H : Hp) (C : Addr) (cl : List (Str × Addr)) (fp : List Addr), PTs (X.blk s H scope (compEnvC scope cl C X.env) fp) ifs tt)
    (he : ∀ (s : Shared) (H : Hp) (C : Addr) (cl : List (Str × Addr)) (fp : List Addr), PE (X.blk s H scope (compEnvC scope cl C X.env) fp) elt te) (hs : ∀ x, foldedSetIterable iter X.env x = pure x := by intro _; rfl) :
    PE X (.ListComp elt [⟨tg, iter, ifs, 0⟩] scope pos) (tLc wi g tt te (own.map (·.2))) := by
  intro pins s σ H Q I h
  rw [eval_ListComp]
  refine lc_core hc hN I hi ok hg ht he hs h fun D C s' m H' I' q hn f => ⟨m, hn, fun h'' sb => ?_⟩
  obtain ⟨f0, f1, f2, f3, f4, f5⟩ := f
  exact ⟨.ref D, H', I'.turned (t' := s'.toks) (fun b o hb e => (sb.2 b hb).trans e) f0 f1 f3 f4 f5, rfl, q⟩
/-- name = [..] on one line, the name a local -/
theorem ps_setLc {i : Nat} {y : Str} {py : Pos} {elt tg iter : Expr} {ifs : List Expr} {scope : Scope} {own : List (Str × Nat)} {pos spos : Pos} {wi : TI} {g : TG} {tt : TT} {te : TE} (hc : X.calm = true) (hN : X.N.Nodup) (hy : X.N[i]? = some y) (hyl : X.env.scope.names.lookup y = some .local)
    (hsw : swapsWith (.ListComp elt [⟨tg, iter, ifs, 0⟩] scope pos) (some (.Name y py)) spos.line X.env = pure true) (hi : PI X tg iter wi) (ok : BlkOk X.N X.env.scope scope own)
    (hg : ∀ (s : Shared) (H : Hp) (C : Addr) (cl : List (Str × Addr)) (fp : List Addr), PG (X.blk s H scope (compEnvC scope cl C X.env) fp) tg g) (ht : ∀ (s : Shared) (H : Hp) (C : Addr) (cl : List (Str × Addr)) (fp : List Addr), PTs (X.blk s H scope (compEnvC scope cl C X.env) fp) ifs tt)
    (he : ∀ (s : Shared) (H : Hp) (C : Addr) (cl : List (Str × Addr)) (fp : List Addr), PE (X.blk s H scope (compEnvC scope cl C X.env) fp) elt te) (hs : ∀ x, foldedSetIterable iter X.env x = pure x := by intro _; rfl) :
    PS X (.Assign [.Name y py] (.ListComp elt [⟨tg, iter, ifs, 0⟩] scope pos) spos) (tAsg (tLc wi g tt te (own.map (·.2))) (gName i)) := by
  intro pins s σ H D I h
  rw [exec_Assign_Name_used _ _ _ _ hsw]
  refine wpAny_bind (wpAny_standAt (wpAny_bind ?_))
  show wpAny _ X.A (do let _ ← comprehension (.ListComp elt [⟨tg, iter, ifs, 0⟩] scope pos) scope X.env (firstIterPos [⟨tg, iter, ifs, 0⟩] pos) (newList []) false (eval iter X.env) (some (assign (.Name y py) X.env))) _ _ s
  have h : tLc wi g tt te (own.map (·.2)) σ H (fun x H1 => gName i x σ H1 D.nx) := h
  refine wpAny_bind (thn (lc_core (Qf := fun _ s' => SP X pins D .next s') hc hN I hi ok hg ht he hs h fun L C s' m H' I' q hn f => ?_) fun _ s' hq => wpAny_pure (wpAny_pure hq))
  show wpAny _ _ (assign (.Name y py) X.env (.ref L)) _ _ _
  refine wpAny_assign_Name (store_ok2 (v := V.ref L) I' hN hy (.inl hyl) rfl (fun s2 I2 ⟨a, sb, ha⟩ => ?_) (.inr hyl))
  obtain ⟨f0, f1, f2, f3, f4, f5⟩ := f
  have haC : C ≠ a := by
    rcases ha with z | z
    · rw [z]; exact f1
    · exact fun e => f4 y a z e.symm
  refine ⟨m, hn.sameBut sb haC, fun h3 sb3 => ?_⟩
  exact ⟨_, H', I2.turned (t' := s2.toks) (fun b o hb e => (sb3.2 b hb).trans e) f0 f1 f3 f4 f5, q⟩
end

/-! ### the forms one uses -/
/-- over a range: Pv by the turn and the heap (the new list at D within) -/
theorem lc_range {lo : Int} {n : Nat} {g : TG} {tt : TT} {te : TE} {vs : List Nat} {σ : St} {H1 : Hp} {D : Addr} {Qd : Hp → Prop} (Pv : Nat → Hp → Prop) (h0 : Pv 0 (upd H1 D (.lst [])))
    (hs : ∀ i H, i < n → Pv i H → g (.int (lo + i)) (wipe σ vs) H fun σ2 H2 => wipe σ2 vs = wipe σ vs ∧ tt σ2 H2 fun b H3 =>
      if b = true then te σ2 H3 fun y H4 => ∃ acc, H4 D = some (.lst acc) ∧ acc.length < sizeLine ∧ Pv (i + 1) (upd H4 D (.lst (acc ++ [y]))) else Pv (i + 1) H3) (hd : ∀ H, Pv n H → Qd H) :
    ∃ W : Nat → Nat → Hp → Prop, (∃ m, W 0 m (upd H1 D (.lst []))) ∧ ∀ i m H, W i m H →
      ((Itr lo n).stop i H ∧ Qd H) ∨ ((Itr lo n).go i H ∧ ∃ Nx : Hp → Prop, (∀ H', Nx H' → ∃ m', m' < m ∧ W (i + 1) m' H') ∧ ∀ x H', (Itr lo n).yld i H x H' → g x (wipe σ vs) H' fun σ2 H2 => wipe σ2 vs = wipe σ vs ∧ tt σ2 H2 fun b H3 =>
        if b = true then te σ2 H3 fun y H4 => ∃ acc, H4 D = some (.lst acc) ∧ acc.length < sizeLine ∧ Nx (upd H4 D (.lst (acc ++ [y]))) else Nx H3) := by
  refine ⟨fun i m H => m = n - i ∧ i ≤ n ∧ Pv i H, ⟨n, by simp, Nat.zero_le _, h0⟩, ?_⟩
  rintro i m H ⟨rfl, hi, p⟩
  by_cases hlt : i < n
  · refine .inr ⟨hlt, Pv (i + 1), fun H' p' => ⟨n - (i + 1), by omega, rfl, hlt, p'⟩, fun x H' y => ?_⟩
    obtain ⟨e, y⟩ := y
    subst e y
    exact hs i _ hlt p
  · have e : i = n := by omega
    subst e
    exact .inl ⟨Nat.le_refl _, hd H p⟩
/-- over a list that the block leaves as it is -/
theorem lc_list {K : PySem.W.Frag} {a : Addr} {xs : List V} {g : TG} {tt : TT} {te : TE} {vs : List Nat} {σ : St} {H1 : Hp} {D : Addr} {Qd : Hp → Prop} (Pv : Nat → Hp → Prop) (h0 : Pv 0 (upd H1 D (.lst []))) (hl : ∀ i H, i ≤ xs.length → Pv i H → SqL K H a xs)
    (hs : ∀ i x H, xs[i]? = some x → Pv i H → g x (wipe σ vs) H fun σ2 H2 => wipe σ2 vs = wipe σ vs ∧ tt σ2 H2 fun b H3 =>
      if b = true then te σ2 H3 fun y H4 => ∃ acc, H4 D = some (.lst acc) ∧ acc.length < sizeLine ∧ Pv (i + 1) (upd H4 D (.lst (acc ++ [y]))) else Pv (i + 1) H3) (hd : ∀ H, Pv xs.length H → Qd H) :
    ∃ W : Nat → Nat → Hp → Prop, (∃ m, W 0 m (upd H1 D (.lst []))) ∧ ∀ i m H, W i m H →
      ((Itl K a).stop i H ∧ Qd H) ∨ ((Itl K a).go i H ∧ ∃ Nx : Hp → Prop, (∀ H', Nx H' → ∃ m', m' < m ∧ W (i + 1) m' H') ∧ ∀ x H', (Itl K a).yld i H x H' → g x (wipe σ vs) H' fun σ2 H2 => wipe σ2 vs = wipe σ vs ∧ tt σ2 H2 fun b H3 =>
        if b = true then te σ2 H3 fun y H4 => ∃ acc, H4 D = some (.lst acc) ∧ acc.length < sizeLine ∧ Nx (upd H4 D (.lst (acc ++ [y]))) else Nx H3) := by
  refine ⟨fun i m H => m = xs.length - i ∧ i ≤ xs.length ∧ Pv i H, ⟨xs.length, by simp, Nat.zero_le _, h0⟩, ?_⟩
  rintro i m H ⟨rfl, hi, p⟩
  have q := hl i H hi p
  by_cases hlt : i < xs.length
  · refine .inr ⟨⟨xs, xs[i], q, by simp [hlt]⟩, Pv (i + 1), fun H' p' => ⟨xs.length - (i + 1), by omega, rfl, hlt, p'⟩, fun x H' y => ?_⟩
    obtain ⟨e, y⟩ := y
    subst e
    exact hs i x _ (y xs q) p
  · have e : i = xs.length := by omega
    subst e
    exact .inl ⟨⟨xs, q, Nat.le_refl _⟩, hd H p⟩
/-- over a tuple -/
theorem lc_tup {K : PySem.W.Frag} {a : Addr} {xs : List V} {g : TG} {tt : TT} {te : TE} {vs : List Nat} {σ : St} {H1 : Hp} {D : Addr} {Qd : Hp → Prop} (Pv : Nat → Hp → Prop) (h0 : Pv 0 (upd H1 D (.lst []))) (hl : ∀ i H, i ≤ xs.length → Pv i H → SqT K H a xs)
    (hs : ∀ i x H, xs[i]? = some x → Pv i H → g x (wipe σ vs) H fun σ2 H2 => wipe σ2 vs = wipe σ vs ∧ tt σ2 H2 fun b H3 =>
      if b = true then te σ2 H3 fun y H4 => ∃ acc, H4 D = some (.lst acc) ∧ acc.length < sizeLine ∧ Pv (i + 1) (upd H4 D (.lst (acc ++ [y]))) else Pv (i + 1) H3) (hd : ∀ H, Pv xs.length H → Qd H) :
    ∃ W : Nat → Nat → Hp → Prop, (∃ m, W 0 m (upd H1 D (.lst []))) ∧ ∀ i m H, W i m H →
      ((Itt K a).stop i H ∧ Qd H) ∨ ((Itt K a).go i H ∧ ∃ Nx : Hp → Prop, (∀ H', Nx H' → ∃ m', m' < m ∧ W (i + 1) m' H') ∧ ∀ x H', (Itt K a).yld i H x H' → g x (wipe σ vs) H' fun σ2 H2 => wipe σ2 vs = wipe σ vs ∧ tt σ2 H2 fun b H3 =>
        if b = true then te σ2 H3 fun y H4 => ∃ acc, H4 D = some (.lst acc) ∧ acc.length < sizeLine ∧ Nx (upd H4 D (.lst (acc ++ [y]))) else Nx H3) := by
  refine ⟨fun i m H => m = xs.length - i ∧ i ≤ xs.length ∧ Pv i H, ⟨xs.length, by simp, Nat.zero_le _, h0⟩, ?_⟩
  rintro i m H ⟨rfl, hi, p⟩
  have q := hl i H hi p
  by_cases hlt : i < xs.length
  · refine .inr ⟨⟨xs, xs[i], q, by simp [hlt]⟩, Pv (i + 1), fun H' p' => ⟨xs.length - (i + 1), by omega, rfl, hlt, p'⟩, fun x H' y => ?_⟩
    obtain ⟨e, y⟩ := y
    subst e
    exact hs i x _ (y xs q) p
  · have e : i = xs.length := by omega
    subst e
    exact .inl ⟨⟨xs, q, Nat.le_refl _⟩, hd H p⟩
end L2

namespace L2
open PySem PySem.Spec PyProof.Rows


section
variable {prog : Program} {w : World} {A : Around} {R : Result → Shared → Prop} {s : Shared} {elt t0 i0 t1 i1 : Expr} {ifs0 ifs1 : List Expr} {scope : Scope} {pos : Pos} {it acc : Value} {env : Env}
end

section
variable {X : Cx}
end
end L2

namespace L2
open PySem PySem.Spec PyProof.Rows

/-! ### lists of pairs as tables -/
section
variable {κ : Type} [DecidableEq κ]
def valV (kvs : List (κ × V)) (k : κ) : Option V := (kvs.find? fun kv => decide (kv.1 = k)).map (·.2)
/-- in its place, or at the end -/
def putK (kvs : List (κ × V)) (k : κ) (v : V) : List (κ × V) :=
  if (kvs.any fun kv => decide (kv.1 = k)) = true then kvs.map (fun kv => if kv.1 = k then (kv.1, v) else kv) else kvs ++ [(k, v)]

theorem valV_pos {p : κ × V} {r : List (κ × V)} {k : κ} (e : p.1 = k) : valV (p :: r) k = some p.2 := by simp [valV, List.find?_cons, e]
theorem valV_neg {p : κ × V} {r : List (κ × V)} {k : κ} (e : ¬ p.1 = k) : valV (p :: r) k = valV r k := by simp [valV, List.find?_cons, e]
theorem valV_any (k : κ) : ∀ kvs : List (κ × V), (kvs.any fun kv => decide (kv.1 = k)) = (valV kvs k).isSome
  | [] => rfl
  | p :: r => by
    rw [List.any_cons]
    by_cases e : p.1 = k
    · simp only [valV_pos e, decide_eq_true e, Bool.true_or, Option.isSome_some]
    · rw [valV_neg e, decide_eq_false e, Bool.false_or]; exact valV_any k r
theorem length_putK (kvs : List (κ × V)) (k : κ) (v : V) : (putK kvs k v).length ≤ kvs.length + 1 := by
  unfold putK
  split
  · rw [List.length_map]; omega
  · rw [List.length_append, List.length_cons, List.length_nil]; omega

theorem RelO.isSome_eq {o : Option V} {u : Option Value} (r : RelO o u) : o.isSome = u.isSome := by
  cases o with
  | none => cases u with
    | none => rfl
    | some _ => exact (show False from r).elim
  | some _ => cases u with
    | none => exact (show False from r).elim
    | some _ => rfl
theorem RelO.getD {o : Option V} {u : Option Value} {d : V} {d' : Value} (r : RelO o u) (rd : RelV d d') : RelV (o.getD d) (u.getD d') := by
  cases o with
  | none => cases u with
    | none => exact rd
    | some _ => exact (show False from r).elim
  | some _ => cases u with
    | none => exact (show False from r).elim
    | some _ => exact r

/-- raw tables of the same keys -/
theorem KV.val {kvs : List (κ × V)} {vs : List (κ × Value)} (r : KV kvs vs) (k : κ) : RelO (valV kvs k) (valueAt vs k) := by
  unfold KV at r
  induction r with
  | nil => exact True.intro
  | @cons p q ps qs h t ih =>
    obtain ⟨h1, h2⟩ := h
    by_cases e : p.1 = k
    · have e' : q.1 = k := h1.symm.trans e
      have b : valueAt (q :: qs) k = some q.2 := by simp [valueAt, List.find?_cons, e']
      rw [valV_pos e, b]; exact h2
    · have e' : ¬ q.1 = k := fun z => e (h1.trans z)
      have b : valueAt (q :: qs) k = valueAt qs k := by simp [valueAt, List.find?_cons, e']
      rw [valV_neg e, b]; exact ih
theorem KV.any {kvs : List (κ × V)} {vs : List (κ × Value)} (r : KV kvs vs) (k : κ) : (kvs.any fun kv => decide (kv.1 = k)) = vs.any fun kv => decide (kv.1 = k) := by
  unfold KV at r
  induction r with
  | nil => rfl
  | cons h t ih => rw [List.any_cons, List.any_cons, ih, h.1]
theorem KV.repl {kvs : List (κ × V)} {vs : List (κ × Value)} (r : KV kvs vs) (k : κ) {y : V} {u : Value} (ry : RelV y u) :
    KV (kvs.map fun kv => if kv.1 = k then (kv.1, y) else kv) (vs.map fun kv => if kv.1 = k then (kv.1, u) else kv) := by
  unfold KV at r ⊢
  induction r with
  | nil => exact .nil
  | @cons p q ps qs h t ih =>
    rw [List.map_cons, List.map_cons]
    refine .cons ?_ ih
    obtain ⟨h1, h2⟩ := h
    by_cases e : p.1 = k
    · rw [if_pos e, if_pos (h1.symm.trans e)]; exact ⟨h1, ry⟩
    · rw [if_neg e, if_neg (fun z => e (h1.trans z))]; exact ⟨h1, h2⟩
theorem KV.put {kvs : List (κ × V)} {vs : List (κ × Value)} (r : KV kvs vs) (k : κ) {y : V} {u : Value} (ry : RelV y u) : KV (putK kvs k y) (stored vs k u) := by
  unfold putK stored
  rw [r.any k]
  by_cases e : (vs.any fun kv => decide (kv.1 = k)) = true
  · rw [if_pos e, if_pos e]; exact r.repl k ry
  · rw [if_neg e, if_neg e]; exact Paired.snoc r ⟨rfl, ry⟩
theorem KV.length {kvs : List (κ × V)} {vs : List (κ × Value)} (r : KV kvs vs) : kvs.length = vs.length := Paired.length r
end


/-! ### a tracked dict, its keys ints and texts or tuples of these -/
theorem kV_is {P : Program} {w : World} {k : Key} {u : Value} (r : RelV (kV k) u) : (mixKind P w).is k u = true := by
  cases k with
  | inl i => obtain ⟨t, e⟩ := (show ∃ t, u = Value.int i t from r); subst e; exact mixKind_int P w i t
  | inr x => obtain ⟨t, e⟩ := (show ∃ t, u = Value.str x t from r); subst e; exact mixKind_str P w x t
theorem items_are {P : Program} {w : World} : ∀ {ks : List Key} {us : List Value}, Vals (ks.map kV) us → ItemsAre (mixKind P w) ks us
  | [], _, r => by rw [List.map_nil] at r; cases r; exact .nil
  | k :: ks, _, r => by
    rw [List.map_cons] at r
    cases r with
    | cons h t => exact .cons (kV_is h) (items_are t)

/-- raw entries of a dict with tuple keys -/
abbrev KT (H : Hp) : List (List Key × V) → List (List Key × Addr × Value) → Prop := Paired fun p q => p.1 = q.1 ∧ H q.2.1 = some (.tup (p.1.map kV)) ∧ RelV p.2 q.2.2
theorem KT.val {H : Hp} {kvs : List (List Key × V)} {xs : List (List Key × Addr × Value)} (r : KT H kvs xs) (k : List Key) : RelO (valV kvs k) ((atKey xs k).map (·.2)) := by
  induction r with
  | nil => exact True.intro
  | @cons p q ps qs h t ih =>
    obtain ⟨h1, _, h2⟩ := h
    by_cases e : p.1 = k
    · have e' : q.1 = k := h1.symm.trans e
      have b : atKey (q :: qs) k = some q.2 := by simp [atKey, List.find?_cons, e']
      rw [valV_pos e, b]; exact h2
    · have e' : ¬ q.1 = k := fun z => e (h1.trans z)
      have b : atKey (q :: qs) k = atKey qs k := by simp [atKey, List.find?_cons, e']
      rw [valV_neg e, b]; exact ih
theorem KT.repl {H : Hp} {kvs : List (List Key × V)} {xs : List (List Key × Addr × Value)} (r : KT H kvs xs) (k : List Key) {y : V} {u : Value} (ry : RelV y u) :
    KT H (kvs.map fun kv => if kv.1 = k then (kv.1, y) else kv) (xs.map (putAt k u)) := by
  induction r with
  | nil => exact .nil
  | @cons p q ps qs h t ih =>
    rw [List.map_cons, List.map_cons]
    refine .cons ?_ ih
    obtain ⟨h1, h2, h3⟩ := h
    unfold putAt
    by_cases e : p.1 = k
    · rw [if_pos e, if_pos (h1.symm.trans e)]; exact ⟨h1, h2, ry⟩
    · rw [if_neg e, if_neg (fun z => e (h1.trans z))]; exact ⟨h1, h2, h3⟩
theorem KT.put {H : Hp} {kvs : List (List Key × V)} {xs : List (List Key × Addr × Value)} (r : KT H kvs xs) (k : List Key) {b : Addr} {y : V} {u : Value} (hb : H b = some (.tup (k.map kV))) (ry : RelV y u) :
    KT H (putK kvs k y) (storedH xs k b u) := by
  have e : (kvs.any fun kv => decide (kv.1 = k)) = (atKey xs k).isSome := by
    rw [valV_any, (r.val k).isSome_eq, Option.isSome_map]
  unfold putK storedH
  rw [e]
  by_cases q : (atKey xs k).isSome = true
  · rw [if_pos q, if_pos q]; exact r.repl k ry
  · rw [if_neg q, if_neg q]; exact Paired.snoc r ⟨rfl, hb, ry⟩
theorem KT.keeps {H H' : Hp} {kvs : List (List Key × V)} {xs : List (List Key × Addr × Value)} (r : KT H kvs xs) (ht : ∀ b ys, H b = some (.tup ys) → H' b = some (.tup ys)) : KT H' kvs xs :=
  Paired.mapP r fun _ _ z => ⟨z.1, ht _ _ z.2.1, z.2.2⟩

section
variable {P : Program} {w : World} {H : Hp} {h : Heap} {a : Addr}
theorem rd_of {u : HO} (ok : HOk P w H h) (e : Rd H a u) : ObjOk P w H h a u := e.ok ok
theorem dk_rd {kvs : List (Key × V)} (ok : HOk P w H h) (e : Rd H a (.dK kvs)) : kvs.length ≤ sizeLine ∧ (a == sysModules) = false ∧ ∃ vs, KV kvs vs ∧ h.DictOf (mixKind P w) a vs :=
  show ObjOk P w H h a (.dK kvs) from rd_of ok e
theorem dk_of {kvs : List (Key × V)} (ok : HOk P w H h) (e : H a = some (.dK kvs)) : kvs.length ≤ sizeLine ∧ (a == sysModules) = false ∧ ∃ vs, KV kvs vs ∧ h.DictOf (mixKind P w) a vs := dk_rd ok (.inl e)
/-- a tracked tuple of ints and texts is a key -/
theorem key_of {ks : List Key} (ok : HOk P w H h) (e : H a = some (.tup (ks.map kV))) : (tupleKind (mixKind P w)).is h ks a := by
  obtain ⟨_, its, r, o, h1, h2, n, h3⟩ := (show ObjOk P w H h a (.tup (ks.map kV)) from ok a _ e)
  exact ⟨o, its.toArray, n, h1, h2, h3, by simpa using items_are r⟩
theorem dt_rd {kvs : List (List Key × V)} (ok : HOk P w H h) (e : Rd H a (.dT kvs)) : kvs.length ≤ sizeLine ∧ (a == sysModules) = false ∧
    ∃ xs, KT H kvs xs ∧ h.DictOfH (tupleKind (mixKind P w)) a xs := by
  obtain ⟨z, y, xs, r, o, es, ep, h1, h2, h3, h4, h5⟩ := (show ObjOk P w H h a (.dT kvs) from rd_of ok e)
  refine ⟨z, y, xs, r, o, es, ep, h1, h2, h3, h4, fun x hx => ?_, h5⟩
  have all : ∀ {l : List (List Key × V)} {m : List (List Key × Addr × Value)}, KT H l m → ∀ x ∈ m, (tupleKind (mixKind P w)).is h x.1 x.2.1 := by
    intro l m q
    induction q with
    | nil => intro x hx; exact nomatch hx
    | @cons p q ps qs hq t ih =>
      intro x hx
      rcases List.mem_cons.mp hx with e | hx
      · subst e
        exact key_of ok (by rw [← hq.1]; exact hq.2.1)
      · exact ih x hx
  exact all r x hx
theorem dt_of {kvs : List (List Key × V)} (ok : HOk P w H h) (e : H a = some (.dT kvs)) : kvs.length ≤ sizeLine ∧ (a == sysModules) = false ∧
    ∃ xs, KT H kvs xs ∧ h.DictOfH (tupleKind (mixKind P w)) a xs := dt_rd ok (.inl e)
end

/-- what the dict at a holds at the key y -/
def DGet (H : Hp) (a : Addr) (y : V) (r : Option V) : Prop :=
  (∃ kvs k, Rd H a (.dK kvs) ∧ y = kV k ∧ r = valV kvs k) ∨ ∃ kvs k b, Rd H a (.dT kvs) ∧ y = .ref b ∧ H b = some (.tup (k.map kV)) ∧ r = valV kvs k
/-- the heap behind a[y] = v -/
def DPut (H : Hp) (a : Addr) (y v : V) (H' : Hp) : Prop :=
  (∃ kvs k, H a = some (.dK kvs) ∧ y = kV k ∧ kvs.length < sizeLine ∧ H' = upd H a (.dK (putK kvs k v))) ∨
  ∃ kvs k b, H a = some (.dT kvs) ∧ y = .ref b ∧ H b = some (.tup (k.map kV)) ∧ kvs.length < sizeLine ∧ H' = upd H a (.dT (putK kvs k v))
theorem DGet.t {H : Hp} {a b : Addr} {kvs : List (List Key × V)} {k : List Key} (e : H a = some (.dT kvs)) (eb : H b = some (.tup (k.map kV))) : DGet H a (.ref b) (valV kvs k) := .inr ⟨kvs, k, b, .inl e, rfl, eb, rfl⟩
theorem DPut.t {H : Hp} {a b : Addr} {kvs : List (List Key × V)} {k : List Key} {v : V} (e : H a = some (.dT kvs)) (eb : H b = some (.tup (k.map kV))) (hl : kvs.length < sizeLine) :
    DPut H a (.ref b) v (upd H a (.dT (putK kvs k v))) := .inr ⟨kvs, k, b, e, rfl, eb, hl, rfl⟩


section
variable {X : Cx} {pins : List (Addr × Obj)} {σ : St} {H : Hp} {s : Shared} {a : Addr} {y v : V} {u r : Value} {o : Option V} {A : Around} {E : Value → Shared → Prop}

theorem Inv.big (I : Inv X pins σ H s) : sysModules < s.heap.objs.size := by
  have h : mainGlobals < s.heap.objs.size := (I.mod.glob.keeps I.bk).lt
  exact Nat.lt_trans (by decide) h

/-- a dict's object is replaced -/
theorem d_write {h' : Heap} {t' : Nat} {ob : HO} (I : Inv X pins σ H s) (mu : Mut (H a)) (hs : Heap.SameBut a s.heap h') (he : ∃ q, h'.get? a = some q) (new : ObjOk X.prog X.w (upd H a ob) h' a ob) :
    Inv X pins σ (upd H a ob) { s with heap := h', toks := t' } :=
  I.write (x := a) (e := a) mu (.inl rfl) (fun b q hb z => (hs.2 b hb).trans z) he new
theorem dk_new {P : Program} {w : World} {H' : Hp} {h' : Heap} {kvs : List (Key × V)} {vs : List (Key × Value)} (z : kvs.length ≤ sizeLine) (hd : (a == sysModules) = false) (rel : KV kvs vs) (dd : h'.DictOf (mixKind P w) a vs) :
    ObjOk P w H' h' a (.dK kvs) := ⟨z, hd, vs, rel, dd⟩
/-- d[y] = v -/
theorem d_setItem {H' : Hp} {Q : Unit → Shared → Prop} (hu : A.units + 1 < cLine) (I : Inv X pins σ H s) (g : DPut H a y v H') (ry : RelV y u) (rv : RelV v r) (h : ∀ s', Inv X pins σ H' s' → Q () s') :
    wpAny (model X.prog X.w) A (setItem (.ref a) u r) Q E s := by
  rcases g with ⟨kvs, k, e, ey, l, eH⟩ | ⟨kvs, k, b, e, ey, eb, l, eH⟩
  · subst ey eH
    obtain ⟨z, hd, vs, rel, dd⟩ := dk_of I.hok e
    have hz : vs.length ≤ sizeLine := by rw [← rel.length]; exact z
    have hl : (putK kvs k v).length ≤ sizeLine := by have := length_putK kvs k v; omega
    refine wpAny_setItem_pairs (hsz := hz) (kV_is ry) dd fun h' dd' hs => h _ ?_
    have he : ∃ q, h'.get? a = some q := let ⟨q, _, _, hq, _⟩ := dd'; ⟨q, hq⟩
    exact d_write I (by rw [e]; exact True.intro) hs he (dk_new hl hd (rel.put k rv) dd')
  · subst ey eH
    cases (show u = Value.ref b from ry)
    obtain ⟨z, hd, xs, rel, dd⟩ := dt_of I.hok e
    have hz : xs.length ≤ sizeLine := by rw [← Paired.length rel]; exact z
    have hl : (putK kvs k v).length ≤ sizeLine := by have := length_putK kvs k v; omega
    refine wpAny_setItem_heap (hsz := hz) (tupleKind_room_in1 hu) (key_of I.hok eb) dd fun h' dd' hs => h _ ?_
    obtain ⟨q, es, ep, hq, h2, h3, h4, _, h5⟩ := dd'
    refine d_write I (by rw [e]; exact True.intro) hs ⟨q, hq⟩ ⟨hl, hd, _, (rel.put k eb rv).keeps fun c ys ec => ?_, q, es, ep, hq, h2, h3, h4, h5⟩
    rw [upd_ne (ne_of ec e (fun z => nomatch z))]
    exact ec
end

section
variable {X : Cx} {pins : List (Addr × Obj)} {σ : St} {H : Hp} {s : Shared} {a : Addr} {kvs : List (Key × V)} {k : Key} {u : Value} {A : Around} {E : Value → Shared → Prop}
end


/-! ### readings and rules -/


/-- d[y] = v -/
def sDPut (td ty tv : TE) : TS := fun D σ H => tv σ H fun v H1 => td σ H1 fun x H2 => ty σ H2 fun y H3 => ∃ a H4, x = .ref a ∧ DPut H3 a y v H4 ∧ D.nx σ H4

section
variable {X : Cx} {o i e value : Expr} {pos pos' tpos : Pos} {td ty tv : TE}
theorem ps_dput (hu : X.A.units + 1 < cLine) (ho : PE X o td) (hi : PE X i ty) (hv : PE X value tv) (hs : swapsWith value (some (.Subscript o i pos')) pos.line X.env = pure false) :
    PS X (.Assign [.Subscript o i pos'] value pos) (sDPut td ty tv) := by
  intro pins s σ H D I h
  refine wpAny_Assign_Subscript (thn (hv pins s σ H _ I h) fun r s1 ⟨v, H1, I1, rv, q1⟩ => thn (ho pins s1 σ H1 _ I1 q1) fun u s2 ⟨x, H2, I2, rx, q2⟩ => thn (hi pins s2 σ H2 _ I2 q2) fun iv s3 ⟨y, H3, I3, ry, a, H4, ex, g, q3⟩ => ?_) hs
  subst ex
  obtain rfl : u = Value.ref a := rx
  exact d_setItem hu I3 g ry rv fun s4 I4 => ⟨σ, H4, I4, q3⟩
end


/-! ### displays -/
theorem dt_empty {P : Program} {w : World} {H : Hp} (h : Heap) (hb : sysModules < h.objs.size) : ObjOk P w H (h.push { cls := .type "dict", data := .dict #[] }) h.objs.size (.dT []) :=
  ⟨Nat.zero_le _, beq_eq_false_iff_ne.mpr (Ne.symm (Nat.ne_of_lt hb)), [], .nil, _, #[], 0, Heap.get?_push_size _ rfl, ⟨rfl, rfl, rfl⟩, rfl, rfl, List.nodup_nil⟩
def tDNewT : TE := fun _ H Q => ∀ p, H p = none → Q (.ref p) (upd H p (.dT []))
section
variable {X : Cx} {pos : Pos}
theorem pe_dnewT : PE X (.Dict [] [] pos) tDNewT := fun pins s σ H Q I h =>
  wpAny_Dict_empty ⟨.ref s.heap.objs.size, _, I.laid (a := s.heap.objs.size) (o := .dT []) (t' := s.toks) (fun _ _ q => Heap.get?_push_of_some _ q) (Nat.le_refl _) (dt_empty s.heap I.big), rfl, h _ (I.hok.fresh (Nat.le_refl _))⟩
end




/-! ### methods -/
structure M2 (X : Cx) (o : Expr) (m : Str) (apos : Pos) (e f : Expr) (cpos : Pos) : Prop where
  base : attributeBase o m X.env (eval o X.env) = eval o X.env
  few : ((backTo cpos (starEach [e, f] X.env)).all (fun x => !x.1) && (backToKw cpos (keywordEach [] X.env)).all (fun x => x.1.isSome)
    && decide (([e, f] : List Expr).length + ([] : List Keyword).length + (if ([] : List Keyword).isEmpty then 0 else 1) < 30)) = true
  line : (apos.endLine == cpos.line) = true
  trees : backTo cpos (starEach [e, f] X.env) = [(false, eval e X.env), (false, eval f X.env)]

/-- a is a dict, whatever its keys -/
def IsD (H : Hp) (a : Addr) : Prop := (∃ kvs, Rd H a (.dK kvs)) ∨ ∃ kvs, Rd H a (.dT kvs)
theorem isD_at {X : Cx} {pins : List (Addr × Obj)} {σ : St} {H : Hp} {s : Shared} {a : Addr} (I : Inv X pins σ H s) (d : IsD H a) :
    s.TypeIs (.ref a) "dict" ∧ (∀ b, Value.ref a = .ref b → ∃ ob, s.heap.get? b = some ob ∧ ob.dict = none) ∧ (a == sysModules) = false := by
  rcases d with ⟨kvs, e⟩ | ⟨kvs, e⟩
  · obtain ⟨_, hd, vs, _, dd⟩ := dk_rd I.hok e
    refine ⟨dd.typeIs, fun b q => ?_, hd⟩
    cases q
    obtain ⟨ob, _, _, h1, h2, _⟩ := dd
    exact ⟨ob, h1, h2.2.1⟩
  · obtain ⟨_, hd, xs, _, dd⟩ := dt_rd I.hok e
    refine ⟨dd.typeIs, fun b q => ?_, hd⟩
    cases q
    obtain ⟨ob, _, _, h1, h2, _⟩ := dd
    exact ⟨ob, h1, h2.2.1⟩

section
variable {X : Cx} {pins : List (Addr × Obj)} {σ : St} {H : Hp} {s : Shared} {a : Addr} {y d : V} {u r : Value} {o : Option V} {A : Around} {E : Value → Shared → Prop}
/-- d.get(y, x) -/
theorem d_get2 {Q : Value → Shared → Prop} (hu : A.units + 1 < cLine) (I : Inv X pins σ H s) (g : DGet H a y o) (ry : RelV y u) (rd : RelV d r) (h : ∀ w' s', Inv X pins σ H s' → RelV (o.getD d) w' → Q w' s') :
    wpAny (model X.prog X.w) A (call (.builtin "dict.get") [.ref a, u, r]) Q E s := by
  rcases g with ⟨kvs, k, e, ey, l⟩ | ⟨kvs, k, b, e, ey, eb, l⟩
  · subst ey
    obtain ⟨z, hd, vs, rel, dd⟩ := dk_rd I.hok e
    refine call_meetsIn PySem.F.slot_dict_get dd.typeIs PySem.F.entry_dict_get (PySem.F.args_dict_get_3 _ _ _) (meets_dict_get_default (mixKind X.prog X.w) a (kV_is ry) hd r) ⟨_, dd.mapOf, h _ _ (I.tok _) ?_⟩
    rw [l]
    exact (rel.val k).getD rd
  · subst ey
    cases (show u = Value.ref b from ry)
    obtain ⟨z, hd, xs, rel, dd⟩ := dt_rd I.hok e
    refine call_meetsIn PySem.F.slot_dict_get dd.typeIs PySem.F.entry_dict_get (PySem.F.args_dict_get_3 _ _ _) (meetsH_dict_get_default (tupleKind (mixKind X.prog X.w)) a b hd r) ⟨tupleKind_room_in1 hu, k, xs, key_of I.hok eb, dd, h _ _ (I.tok _) ?_⟩
    rw [l]
    exact (rel.val k).getD rd
end

def tDGet2 (td ty tx : TE) : TE := fun σ H Q => td σ H fun x H1 => ∃ a, x = .ref a ∧ IsD H1 a ∧ ty σ H1 fun y H2 => tx σ H2 fun z H3 => ∃ o, DGet H3 a y o ∧ Q (o.getD z) H3
section
variable {X : Cx} {o e f : Expr} {apos cpos : Pos} {td ty tx : TE}
theorem pe_dget2 (hu : X.A.units + 1 < cLine) (ho : PE X o td) (he : PE X e ty) (hf : PE X f tx) (m : M2 X o "get" apos e f cpos) : PE X (.Call (.Attribute o "get" apos) [e, f] [] cpos) (tDGet2 td ty tx) := by
  intro pins s σ H Q I h
  refine wpAny_Call_method m.base m.few m.line PySem.F.plainAttrs_dict PySem.F.slot_dict_get PySem.F.type_dict_get (thn (ho pins s σ H _ I h) fun u s1 ⟨x, H1, I1, rx, a, ex, d, q1⟩ => ?_)
  subst ex
  obtain rfl : u = Value.ref a := rx
  obtain ⟨t1, t2, _⟩ := isD_at I1 d
  refine ⟨t1, t2, ?_⟩
  rw [m.trees]
  refine Calls.callWith_builtin rfl (Calls.evalArgs_plain (Calls.spliced_cons (thn (he pins s1 σ H1 _ I1 q1) fun iv s2 ⟨y, H2, I2, ry, q2⟩ =>
    Calls.spliced_cons (thn (hf pins s2 σ H2 _ I2 q2) fun fv s3 ⟨z, H3, I3, rz, ov, g, q3⟩ => Calls.spliced_nil ?_))))
  exact d_get2 hu I3 g ry rz fun w' s4 I4 rw' => ⟨_, H3, I4, rw', q3⟩
end

/-! ### dict(d): a copy -/
section
variable {X : Cx} {pins : List (Addr × Obj)} {σ : St} {H : Hp} {s : Shared} {a : Addr} {kvs : List (Key × V)} {A : Around} {E : Value → Shared → Prop}
end


section
variable {X : Cx} {pins : List (Addr × Obj)} {σ : St} {H : Hp} {s : Shared} {a : Addr} {y : V} {u : Value} {A : Around} {E : Value → Shared → Prop}
end
end L2

namespace L2
open PySem PySem.Spec PyProof.Rows


section
variable {prog : Program} {w : World} {A : Around} {E : Value → Shared → Prop}


end

section
variable {X : Cx}
end
end L2

namespace L2
open PySem PySem.Spec PyProof.Rows


section
variable {X : Cx} {pins : List (Addr × Obj)} {σ : St} {H : Hp} {s : Shared} {h' : Heap}
/-- .. and one new object is laid -/
theorem Inv.turnedNew {t' : Nat} {ch : List Addr} {T : Addr} {ob : HO} (I : Inv X pins σ H s) (k : ∀ b o, b ∉ ch → s.heap.get? b = some o → h'.get? b = some o) (hf : ∀ b ∈ ch, FpOk X pins H b) (hT : s.heap.objs.size ≤ T)
    (new : ObjOk X.prog X.w (upd H T ob) h' T ob) : Inv X pins σ (upd H T ob) { s with heap := h', toks := t' } := by
  have hn : H T = none := I.hok.fresh hT
  have nit : ∀ b u, H b = some u → b ∉ ch := fun b u e z => by
    have q := (hf b z).1
    rw [q] at e; cases e
  refine I.step (g' := s.gens) (d' := s.drawn) (ch := ch) (fun b hb => ⟨(hf b hb).2.2.2.1, (hf b hb).2.1, (hf b hb).2.2.2.2.1, (hf b hb).2.2.2.2.2⟩) (fun b o _ _ hc e _ => k b o hc e) (fun b o _ _ hc e _ => ⟨o.slots, k b o hc e⟩)
    (fun b o _ e n => ?_) (fun b o hc e => ⟨o, k b o hc e⟩) (fun b xs e => ?_) (fun b o u e => ?_) (fun b ps e => ⟨#[], ?_⟩) (fun m hm => ?_) (fun b u e => ?_) I.bare
  · rw [upd_ne (Nat.ne_of_lt (Nat.lt_of_lt_of_le (Heap.lt_size e) hT))]; exact n
  · rw [upd_ne (ne_of_none e hn)]; exact e
  · rw [upd_ne (ne_of_none e hn)]; exact e
  · rw [upd_ne (ne_of_none e hn), e]; simp
  · obtain ⟨o, es, ep, ho, r⟩ := hm
    exact ⟨o, es, ep, k _ o (fun z => (hf _ z).2.1 rfl) ho, r⟩
  · by_cases hb : b = T
    · subst hb
      rw [upd_same] at e
      cases e
      exact new
    · rw [upd_ne hb] at e
      refine (I.hok b u e).stay (fun c v hc q => k c v ?_ q) (fun c q => by rw [upd_ne (ne_of_none q hn)]; exact q) fun c xs q => by rw [upd_ne (ne_of_none q hn)]; exact q
      rcases hc with z | z
      · rw [z]; exact nit b u e
      · exact nit c _ z

/-! ### locking a thing while a statement runs -/
end
section
variable {X : Cx}

/-! ### one iterator just laid -/
end

/-! ### range with a step -/
section
variable {X : Cx} {tg : Expr}
end

/-! ### reversed(list) -/
section
variable {X : Cx} {tg : Expr}
end

/-! ### a str -/

/-! ### a dict's keys: any dict's entries -/
section
variable {prog : Program} {w : World} {A : Around} {E : Value → Shared → Prop} {s : Shared}
end

/-! ### a locked dict -/
section
variable {X : Cx} {pins : List (Addr × Obj)} {σ : St} {H : Hp} {s : Shared} {d : Addr} {o : Obj}
end

section
variable {P : Program} {w : World} {K : PySem.W.Frag} {tg : Expr} {d : Addr} {o : Obj} {es : Array DictEntry} {ep : Nat}
end

/-! ### for k in d, d.keys(), d.values(), d.items() -/
section
variable {X : Cx} {tg e : Expr} {td : TE} {apos cpos : Pos}
end

/-! ### enumerate(list) -/
/-- the list at a as it stands at each turn, each item in a new pair -/
def Ite (K : PySem.W.Frag) (a : Addr) : It :=
  ⟨fun i H => ∃ (xs : List V) (x : V), SqL K H a xs ∧ xs[i]? = some x, fun i H v H' => ∃ T x, v = .ref T ∧ H T = none ∧ H' = upd H T (.tup [.int (i : Nat), x]) ∧ ∀ xs, SqL K H a xs → xs[i]? = some x, fun i H => ∃ xs : List V, SqL K H a xs ∧ xs.length ≤ i⟩
theorem turn_enum {P : Program} {w : World} {K : PySem.W.Frag} {elts : List Expr} {kk : Nat} {tpos : Pos} (a e it : Addr) :
    Turn P w K (.Tuple elts kk tpos) (Ite K a) [e, it] e (fun i h => (∃ old, IsEnum h e it ((i : Nat) : Int) old) ∧ h.IsListIter it a i ∧ e ≠ it) where
  mem := by simp
  obj := fun i h st b hb => by
    obtain ⟨⟨old, he⟩, ⟨o, ho, hc, hd⟩, _⟩ := st
    have e' : b = e ∨ b = it := by simpa using hb
    rcases e' with z | z
    · rw [z]; exact ⟨_, he, fun v q => nomatch q⟩
    · rw [z]; exact ⟨o, ho, fun v q => by rw [hd] at q; cases q⟩
  keep := fun i h h' st k => let ⟨⟨old, he⟩, hi, hne⟩ := st; ⟨⟨old, k e (by simp) _ he⟩, hi.at fun o q => k it (by simp) o q, hne⟩
  item := by
    intro X hP hw hK hc i pins s σ H E I hf st hg
    subst hP hw hK
    obtain ⟨⟨old, he⟩, hit, hne⟩ := st
    obtain ⟨xs, x, hq, hx⟩ := hg
    obtain ⟨its, rv, p, hz⟩ := I.list hq
    obtain ⟨u, hu, ru⟩ := rv.get hx
    have hel : e < s.heap.objs.size := Heap.lt_size he
    have hil : it < s.heap.objs.size := by obtain ⟨_, q, _⟩ := hit; exact Heap.lt_size q
    refine wpAny_pyNext_enum_item he hit p.isList (x := u) (by simpa using hu) hne fun h' ho hit' hT hsz hk => ?_
    refine ⟨_, rfl, wpAny_letOwnedTupleGo_enum (s := { s with heap := h', toks := s.toks + 1 }) ho fun h'' he' sb => ?_⟩
    have hT2 : h''.get? s.heap.objs.size = some { cls := .type "tuple", data := .seq #[.int i s.toks, u] } := (sb.2 _ (Nat.ne_of_gt hel)).trans hT
    have new : ObjOk X.prog X.w (upd H s.heap.objs.size (.tup [.int (i : Nat), x])) h'' s.heap.objs.size (.tup [.int (i : Nat), x]) :=
      ⟨by show 2 ≤ sizeLine; decide, [.int i s.toks, u], .cons ⟨_, rfl⟩ (.cons ru .nil), ⟨_, hT2, rfl, _, rfl⟩⟩
    have I1 : Inv X pins σ (upd H s.heap.objs.size (.tup [.int (i : Nat), x])) { s with heap := h'', toks := s.toks + 1 } :=
      I.turnedNew (ch := [e, it]) (fun b ob hb q => (sb.2 b (fun z => hb (by simp [z]))).trans (hk b ob (fun z => hb (by simp [z])) (fun z => hb (by simp [z])) q)) hf (Nat.le_refl _) new
    refine ⟨.ref s.heap.objs.size, _, I1, rfl, ⟨_, x, rfl, I.hok.fresh (Nat.le_refl _), rfl, fun ys hy => by rw [I.list_inj hy hq]; exact hx⟩, ⟨⟨u, ?_⟩, hit'.at fun o q => (sb.2 it (Ne.symm hne)).trans q, hne⟩, fun b hb => ?_⟩
    · have e1 : ((i + 1 : Nat) : Int) = (i : Int) + 1 := by omega
      rw [e1]; exact he'
    · have hb' : b < s.heap.objs.size := by
        have e' : b = e ∨ b = it := by simpa using hb
        rcases e' with z | z
        · rw [z]; exact hel
        · rw [z]; exact hil
      rw [upd_ne (Nat.ne_of_lt hb')]
      exact (hf b hb).1
  done := by
    intro X hP hw hK hc i pins s σ H E I hf st hg
    subst hP hw hK
    obtain ⟨⟨old, he⟩, hit, hne⟩ := st
    obtain ⟨xs, hq, hx⟩ := hg
    obtain ⟨its, rv, p, hz⟩ := I.list hq
    obtain ⟨f0, f1, f2, f3, f4, f5⟩ := hf it (by simp)
    have hl := rv.length
    exact wpAny_pyNext_enum_end (I.ok.hd hc) he hit p.isList (by simp; omega) fun h' eb => ⟨rfl, I.turned (t' := s.toks) (fun b o hb q => eb b o hb q) f0 f1 f3 f4 f5⟩
  self := fun A i s Q E st h => let ⟨⟨_, he⟩, _⟩ := st; wpAny_pyIter_enum he h
def iEnum (K : PySem.W.Frag) (ta : TA) : TI := fun σ H R => ta σ H fun vs H1 => ∃ a xs, vs = [.ref a] ∧ SqL K H1 a xs ∧ R (Ite K a) H1
theorem pi_enum {X : Cx} {e : Expr} {ta : TA} {p pos tpos : Pos} {elts : List Expr} {kk : Nat} (hg : Gl X "enumerate") (hm : X.mg "enumerate" = none) (ha : PA X [e] ta) (hs : starEach [e] X.env = [(false, eval e X.env)] := by rfl) :
    PI X (.Tuple elts kk tpos) (.Call (.Name "enumerate" p) [e] [] pos) (iEnum X.K ta) := by
  intro pins s σ H R I h
  refine Call_ (ld_blt I hg hm boot_enumerate (PyProof.Rows.callWith_type1 (thn (ha pos pins s σ H _ I h) fun us s1 ⟨vs, H1, I1, r1, q1⟩ => ?_) hs rfl))
  obtain ⟨a, xs, ex, hq, q⟩ := q1
  subst ex
  cases r1 with
  | cons r rr =>
    cases rr
    cases r
    obtain ⟨its, rv, p', hz⟩ := I1.list hq
    refine call_enumerate_list p'.isList fun h' he hit hsz hk => wpAny_pyIter_enum he ?_
    have I2 : Inv X pins σ H1 { s1 with heap := h' } := I1.kept (t' := s1.toks) hk
    refine ⟨s1.heap.objs.size + 1, [s1.heap.objs.size + 1, s1.heap.objs.size], _, _, H1, rfl, I2, turn_enum a (s1.heap.objs.size + 1) s1.heap.objs.size, ⟨⟨.none, he⟩, hit, Nat.succ_ne_self _⟩, fun b hb => ?_, q⟩
    have e' : b = s1.heap.objs.size + 1 ∨ b = s1.heap.objs.size := by simpa using hb
    have hle : s1.heap.objs.size ≤ b := by
      rcases e' with z | z
      · rw [z]; exact Nat.le_add_right _ _
      · rw [z]; exact Nat.le_refl _
    exact I1.fpOk hle (I1.hok.fresh hle)
/-! ### zip(list, list) -/
end L2

section 
namespace Bits
open PySem PyProof.Rows








end Bits
end 

section 
namespace TL
open PySem PySem.Builtin PySem.Builtin.Str PySem.StrLaws


/-! ### the list functions -/




/-! ### the model's split and partition are these -/




/-! ### computing spl and par -/


/-! ### digits -/

/-! ### words: x.split() -/
end TL
end 

namespace L2
open PySem PySem.Spec PyProof.Rows




section
variable {X : Cx} {pins : List (Addr × Obj)} {σ : St} {H : Hp} {s : Shared} {Q : VK}
end

section
variable {X : Cx}





/-! ### of a text alone -/

/-! ### of a text and a text -/

end

section
variable {X : Cx} {o e : Expr} {to te : TE}

end
end L2

namespace L2
open PySem PySem.Spec PyProof.Rows

section
variable {X : Cx}
end

/-! ### slices of a text -/


end L2

namespace Att
open PySem PySem.W PySem.Calls PyProof.Rows

/-! ### the script -/
theorem ints_of_wellAll {P : Params} {h : Heap} : ∀ (ns : List Int) (vs : List Value), WellAll P h vs (ns.map WData.int) → IntsAre vs ns := by
  intro ns
  induction ns with
  | nil =>
    intro vs w
    rw [List.map_nil] at w
    cases w
    exact .nil
  | cons n ns ih =>
    intro vs w
    rw [List.map_cons] at w
    cases w with
    | cons a b =>
      cases a
      exact .cons _ _ (ih _ b)



/-! ### the attachment: holds_open's last premise (the goal 'hc' behind k_head) from a wpAny of the law's body -/



/-! ### rules over ANY heap (no ledger) from facts about the written part K: the library's own take a ledger (News) for what they write -/
section
variable {prog : Program} {w : World} {A : Around} {E : Value → Shared → Prop} {s : Shared} {K : Frag}





/-! the whole heap as the ledger: makes every rule that writes through a ledger a rule over any heap -/

end
end Att

namespace L2
open PySem PySem.Spec PyProof.Rows

theorem vals_ints : ∀ {vs : List Value} {ns : List Int}, IntsAre vs ns → Vals (ns.map V.int) vs
  | _, _, .nil => .nil
  | _, _, .cons n t h => .cons ⟨t, rfl⟩ (vals_ints h)

/-- nothing is tracked but the script, known to the object (or it is an object of the module) -/
def Only (H : Hp) : Prop := ∀ b, H b = none ∨ ∃ o xs, H b = some (.frz o (.lst xs))

end L2

namespace L2
open PySem PySem.Spec PyProof.Rows

abbrev KOf {K : PySem.W.Frag} {h : Heap} (_ : K.In h) : PySem.W.Frag := K

end L2

/- THE LAST THEOREM (shape; LID, My.* are yours):
   My.Adr: a structure of the addresses that your layer names (classes, functions); My.Txt K t: a structure (Prop) of the equations over K;
   My.txt_mk : {K} {implicit addresses ..} (e1 : nsIn K mainGlobals "law" = some (some (.ref f))) (e2 : K.lookup f = some ⟨oc, od, .func (fnOf "law" "law" params body scope dV kV doc pm an cdv ct), sl⟩) (e3 : codeIn K cdv "law" = true) .. : ∃ t, My.Txt K t

set_option maxRecDepth 100000 in
set_option maxHeartbeats 0 in
theorem PySem.Challenge.cw_LID_holds : PySem.Challenge.rw_LID.Holds := by
  w_on; o_law; k_head; (case hw => w_witness2)
  k_fill
  refine L2.walk_of (l := PySem.Challenge.rw_LID) (n := 63) (k := 40) (x := "script") (CX := fun w => ..) (sp := fun _ => My.sp_law) rfl (by decide) rfl ⟨rfl, by decide, by decide⟩ (fun w h Y => PySem.W.kIn_of Y) ?F ?S ?C
  case F =>
    intro w mg fa h KX G hmg
    have T : ∃ t, My.Txt (L2.KOf KX) t := by
      dsimp only [L2.KOf]                          -- K must stand as «<heap const> w.params» for k_is
      refine' My.txt_mk ?e1 ?e2 ?e3 ..
      (case e1 => PySem.W.k_is)                    -- in the order: a name -> its address -> its object -> its parts
      (case e2 => PySem.W.k_is)
      ..
    obtain ⟨t, T⟩ := T
    have e0 := hmg.symm.trans (PySem.W.mg_of KX G T.law)
    cases e0                                       -- fa is the law's own address
    exact ⟨_, fun s u => .of_eq rfl, fun base kb nb => My.law_fn T kb nb⟩     -- if «.of_eq rfl» comes too early: refine' ⟨_, ?b, fun base kb nb => My.law_fn T kb nb⟩; exact fun s u => .of_eq rfl
  case S => exact fun w H a ns hl hO hS => ..
  case C => exact ..
(the tactic k_is has no namespace: write k_is) -/

/-! SHORT WORDS over the layer: a def of the text, its body, what a loop and a test want. -/
namespace L2
open PySem PySem.Spec PyProof.Rows

/-! ### the text by places -/
/-- the j-th statement of a class's body -/
def inClass (s : Stmt) (j : Nat) : Stmt := match s with
  | .ClassDef _ _ _ body _ _ _ _ _ _ _ => body.getD j (.Pass ⟨0, 0, 0, 0⟩)
  | _ => .Pass ⟨0, 0, 0, 0⟩
def defArgs (s : Stmt) : Arguments := match s with
  | .FunctionDef _ a _ _ _ _ _ _ _ _ => a
  | _ => { posonlyargs := [], args := [], vararg := none, kwonlyargs := [], kw_defaults := [], kwarg := none, defaults := [] }
def defBody (s : Stmt) : List Stmt := match s with
  | .FunctionDef _ _ b _ _ _ _ _ _ _ => b
  | _ => []
def defScope (s : Stmt) : Scope := match s with
  | .FunctionDef _ _ _ _ _ _ sc _ _ _ => sc
  | _ => { kind := .function, names := [], isGenerator := false, isCoroutine := false }

/-! ### no exception leaves a def -/
abbrev CX0 : CXT := fun _ _ _ _ _ _ => False
abbrev E0 : XK := fun _ _ _ => False
theorem pass0 {X : Cx} : Passes CX0 X E0 := fun _ _ _ _ _ _ _ h => h.elim

/-! ### a def (or method) of the text as it stands behind the top -/
structure Fun (K : PySem.W.Frag) (x qual : Str) (st : Stmt) (f : Addr) (fd : FuncData) : Prop where
  ex : ∃ (oc : Value) (od : Option Addr) (kV doc pm : Value) (an : Option Addr) (cdv ct : Value) (osl : Array (Option Value)),
    fd = PySem.W.fnOf x qual (defArgs st) (defBody st) (defScope st) .none kV doc pm an cdv ct ∧ K.lookup f = some ⟨oc, od, .func fd, osl⟩ ∧ PySem.W.codeIn K cdv qual = true
  kp : PySem.W.keepIn K (.ref f) = true
section
variable {P : Program} {w : World} {K : PySem.W.Frag} {mg : Str → Option Value} {base : Heap}
/-- THE RULE for a def: its body as a term of rules, and the reading of that term -/
theorem Fun.ok {x qual : Str} {st : Stmt} {f : Addr} {fd : FuncData} {N ps : List Str} {k : Nat} {sp : Sp} (F : Fun K x qual st f fd) (S : FnScope N ps (defScope st)) (len : ∀ vs H Q E, sp vs H Q E → vs.length = ps.length)
    (hbody : ∀ (cdv : Value) (A : Around) (outer : List Env) (s : Shared) (H : Hp) (vs : List V) (Q : VK) (E : XK), Room k (A.deeper (envOfC qual (defScope st) s.heap.objs.size f cdv)) → sp vs H Q E →
      ∃ t, PSs (cxOf CX0 P w K mg base N qual (defScope st) f cdv A outer s H E).nox (defBody st) t ∧ t { nx := fun _ H' => Q .non H', rt := Q } (start N vs) H) : FnOk P w K mg base CX0 (k + 1) f fd ps sp := by
  obtain ⟨oc, od, kV, doc, pm, an, cdv, ct, osl, rfl, lk, hcd⟩ := F.ex
  refine fn_of lk hcd S len fun A outer s H vs Q E hr hsp => ?_
  obtain ⟨t, h, q⟩ := hbody cdv A outer s H vs Q E hr hsp
  exact ⟨t, h.nox, q⟩
/-- how its arguments bind (no defaults): h is «fun _ _ _ _ _ _ us hl => match us, hl with | [_, _], _ => rfl», one _ a parameter -/
theorem Fun.binds {x qual : Str} {st : Stmt} {f : Addr} {fd : FuncData} {ps : List Str} (F : Fun K x qual st f fd)
    (h : ∀ (kV doc pm : Value) (an : Option Addr) (cdv ct : Value) (us : List Value), us.length = ps.length → bindArgs (PySem.W.fnOf x qual (defArgs st) (defBody st) (defScope st) .none kV doc pm an cdv ct) ⟨us, []⟩ = pure (ps.zip us)) : Binds K fd ps [] := by
  obtain ⟨oc, od, kV, doc, pm, an, cdv, ct, osl, rfl, lk, hcd⟩ := F.ex
  exact .all (h kV doc pm an cdv ct)
theorem fun_mk {x qual : Str} {st : Stmt} {f : Addr} {oc : Value} {od an : Option Addr} {osl : Array (Option Value)} {kV doc pm cdv ct : Value} (l : K.lookup f = some ⟨oc, od, .func (PySem.W.fnOf x qual (defArgs st) (defBody st) (defScope st) .none kV doc pm an cdv ct), osl⟩)
    (c : PySem.W.codeIn K cdv qual = true) (k : PySem.W.keepIn K (.ref f) = true) : Fun K x qual st f (PySem.W.fnOf x qual (defArgs st) (defBody st) (defScope st) .none kV doc pm an cdv ct) := ⟨⟨oc, od, kV, doc, pm, an, cdv, ct, osl, rfl, l, c⟩, k⟩
end
theorem hu_of {A : Around} {k : Nat} (hr : Room k A) : A.units + 1 < cLine := Nat.lt_of_le_of_lt (Nat.add_le_add_left (by decide : 1 ≤ 64) _) hr.units

/-! ### expressions in short: the name that stands in the i-th slot -/
section
variable {X : Cx}
theorem pv (i : Nat) {x : Str} {pos : Pos} (hN : X.N[i]? = some x := by rfl) (hv : Vis X.env.scope x := by first | exact Or.inl rfl | exact Or.inr (Or.inl rfl) | exact Or.inr (Or.inr rfl)) (hd : (x == ("__debug__" : Str)) = false := by decide)
    (hcd : (x == ("__classdict__" : Str)) = false := by decide) : PE X (.Name x pos) (tVar i) := pe_var hN hv hd hcd
end

/-! ### tests -/
theorem iteF {A B : Prop} (h : B) : if false = true then A else B := by
  rw [if_neg Bool.false_ne_true]
  exact h
theorem iteT {A B : Prop} (h : A) : if true = true then A else B := by
  rw [if_pos rfl]
  exact h

/-! ### heaps -/
/-- all that was tracked is as it was -/
def Same (H H' : Hp) : Prop := ∀ b o, H b = some o → H' b = some o
theorem Same.trans {H H1 H2 : Hp} (a : Same H H1) (b : Same H1 H2) : Same H H2 := fun c o h => b c o (a c o h)
theorem Same.free {H H' : Hp} (e : Same H H') {l : Addr} (h : H' l = Option.none) : H l = Option.none := by
  cases q : H l with
  | none => rfl
  | some o =>
    rw [e l o q] at h
    cases h
theorem Same.seq {K : PySem.W.Frag} {H H' : Hp} {a : Addr} {xs : List V} (e : Same H H') (h : SqL K H a xs) : SqL K H' a xs := by
  rcases h with (h | ⟨o, h⟩) | h
  · exact .inl (.inl (e _ _ h))
  · exact .inl (.inr ⟨o, e _ _ h⟩)
  · exact .inr h

/-! ### a dict's pairs: keys that differ -/
section
variable {κ : Type} [DecidableEq κ]
end
/-! ### lists -/
end L2
set_option maxHeartbeats 0
/-! Bits of natural numbers. Plain Lean. -/
namespace Tc
theorem or_xor_and : ∀ (n a b : Nat), a ≤ n → a ||| b = (a ^^^ b) + (a &&& b)
  | 0, a, b, h => by
    have : a = 0 := by omega
    subst this
    simp
  | n + 1, a, b, h => by
    by_cases h0 : a = 0
    · subst h0; simp
    · have ih := or_xor_and n (a / 2) (b / 2) (by omega)
      have e1 : (a ||| b) / 2 = a / 2 ||| b / 2 := by simpa using Nat.or_div_two_pow (a := a) (b := b) (n := 1)
      have e2 : (a ^^^ b) / 2 = a / 2 ^^^ b / 2 := by simpa using Nat.xor_div_two_pow (a := a) (b := b) (n := 1)
      have e3 : (a &&& b) / 2 = a / 2 &&& b / 2 := by simpa using Nat.and_div_two_pow (a := a) (b := b) (n := 1)
      have m1 : (a ||| b) % 2 = a % 2 ||| b % 2 := by simpa using Nat.or_mod_two_pow (a := a) (b := b) (n := 1)
      have m2 : (a ^^^ b) % 2 = a % 2 ^^^ b % 2 := by simpa using Nat.xor_mod_two_pow (a := a) (b := b) (n := 1)
      have m3 : (a &&& b) % 2 = a % 2 &&& b % 2 := by simpa using Nat.and_mod_two_pow (a := a) (b := b) (n := 1)
      have ha : a % 2 = 0 ∨ a % 2 = 1 := by omega
      have hb : b % 2 = 0 ∨ b % 2 = 1 := by omega
      have hm : (a % 2 ||| b % 2) = (a % 2 ^^^ b % 2) + (a % 2 &&& b % 2) := by
        rcases ha with ha | ha <;> rcases hb with hb | hb <;> rw [ha, hb] <;> decide
      omega
theorem or_eq_xor_add_and (a b : Nat) : a ||| b = (a ^^^ b) + (a &&& b) := or_xor_and a a b (Nat.le_refl _)
/-- x >> c & 1 -/
theorem bit_at (m c : Nat) : (m / 2 ^ c) % 2 = (if m.testBit c = true then 1 else 0) := by
  rw [Nat.testBit_eq_decide_div_mod_eq]
  by_cases h : m / 2 ^ c % 2 = 1
  · simp [h]
  · have : m / 2 ^ c % 2 = 0 := by omega
    simp [this]
end Tc

/-! Sets of cards as numbers of 32 bits: the specification's mask, bit by bit. Plain Lean. -/
namespace Tc

/-- the sum of the powers of those c below n that p takes -/
def bitsOf (p : Nat → Bool) : Nat → Nat
  | 0 => 0
  | n + 1 => bitsOf p n + (if p n = true then 2 ^ n else 0)
theorem bitsOf_lt (p : Nat → Bool) : ∀ n, bitsOf p n < 2 ^ n
  | 0 => by simp [bitsOf]
  | n + 1 => by
    have h := bitsOf_lt p n
    have e : 2 ^ (n + 1) = 2 ^ n + 2 ^ n := by rw [Nat.pow_succ]; omega
    unfold bitsOf
    split <;> omega
theorem bitsOf_testBit (p : Nat → Bool) : ∀ n c, (bitsOf p n).testBit c = (decide (c < n) && p c)
  | 0, c => by simp [bitsOf]
  | n + 1, c => by
    have ih := bitsOf_testBit p n
    have hlt := bitsOf_lt p n
    rcases Nat.lt_trichotomy c n with h | h | h
    · have h1 : decide (c < n + 1) = true := decide_eq_true (by omega)
      have h2 : decide (c < n) = true := decide_eq_true h
      have := ih c
      rw [h2, Bool.true_and] at this
      unfold bitsOf
      rw [h1, Bool.true_and]
      split
      · rw [Nat.add_comm, Nat.testBit_two_pow_add_gt h, this]
      · rw [Nat.add_zero, this]
    · subst h
      have h1 : decide (c < c + 1) = true := decide_eq_true (by omega)
      have h0 : (bitsOf p c).testBit c = false := Nat.testBit_lt_two_pow hlt
      unfold bitsOf
      rw [h1, Bool.true_and]
      split
      · rename_i hp
        rw [Nat.add_comm, Nat.testBit_two_pow_add_eq, h0, hp]; rfl
      · rename_i hp
        rw [Nat.add_zero, h0]
        simp at hp
        exact hp.symm
    · have h1 : decide (c < n + 1) = false := decide_eq_false (by omega)
      rw [h1, Bool.false_and]
      refine Nat.testBit_lt_two_pow (Nat.lt_of_lt_of_le (bitsOf_lt p (n + 1)) ?_)
      exact Nat.pow_le_pow_right (by decide) (by omega)
theorem sum_map_range (f : Nat → Nat) : ∀ n, ((List.range (n + 1)).map f).sum = ((List.range n).map f).sum + f n := by
  intro n
  rw [List.range_succ, List.map_append, List.sum_append]
  simp
theorem bitsOf_sum (p : Nat → Bool) : ∀ n, ((List.range n).map fun c => if p c = true then 2 ^ c else 0).sum = bitsOf p n
  | 0 => rfl
  | n + 1 => by rw [sum_map_range, bitsOf_sum p n]; rfl
theorem maskOf_eq (l : List Nat) : Rc32.maskOf l = bitsOf (fun c => l.contains c) 32 := bitsOf_sum _ 32
theorem mask_testBit (l : List Nat) (c : Nat) : (Rc32.maskOf l).testBit c = (decide (c < 32) && l.contains c) := by
  rw [maskOf_eq, bitsOf_testBit]
theorem mask_lt (l : List Nat) : Rc32.maskOf l < 2 ^ 32 := by rw [maskOf_eq]; exact bitsOf_lt _ 32

/-- a hand: cards below 32, none twice -/
structure Hand (l : List Nat) : Prop where
  lt : ∀ c ∈ l, c < 32
  nd : l.Nodup
theorem Hand.testBit {l : List Nat} (h : Hand l) (c : Nat) : (Rc32.maskOf l).testBit c = l.contains c := by
  rw [mask_testBit]
  by_cases hc : c < 32
  · rw [decide_eq_true hc, Bool.true_and]
  · rw [decide_eq_false hc, Bool.false_and]
    cases e : l.contains c with
    | false => rfl
    | true => exact absurd (h.lt c (by simpa using e)) hc
theorem Hand.mem_iff {l : List Nat} (h : Hand l) (c : Nat) : (Rc32.maskOf l).testBit c = true ↔ c ∈ l := by
  rw [h.testBit]; simp
/-- a number whose bits are a list's cards is its mask -/
theorem mask_of_bits {l : List Nat} {m : Nat} (h : ∀ c, m.testBit c = (decide (c < 32) && l.contains c)) : m = Rc32.maskOf l :=
  Nat.eq_of_testBit_eq fun c => by rw [h c, mask_testBit]
theorem Hand.of_bits {l : List Nat} (hl : Hand l) {m : Nat} (h : ∀ c, m.testBit c = l.contains c) : m = Rc32.maskOf l :=
  Nat.eq_of_testBit_eq fun c => by rw [h c, hl.testBit]
theorem mask_nil : Rc32.maskOf [] = 0 := by decide
theorem Hand.filter {l : List Nat} (h : Hand l) (p : Nat → Bool) : Hand (l.filter p) :=
  ⟨fun c hc => h.lt c (List.mem_filter.mp hc).1, h.nd.sublist List.filter_sublist⟩
/-- or of two masks -/
theorem mask_append (a b : List Nat) : Rc32.maskOf (a ++ b) = Rc32.maskOf a ||| Rc32.maskOf b := by
  refine (mask_of_bits fun c => ?_).symm
  rw [Nat.testBit_or, mask_testBit, mask_testBit]
  simp only [List.contains_eq_mem, List.mem_append]
  by_cases h : c < 32 <;> simp [h]
theorem mask_cons (a : Nat) (b : List Nat) : Rc32.maskOf (a :: b) = Rc32.maskOf [a] ||| Rc32.maskOf b := mask_append [a] b
theorem mask_one {a : Nat} (h : a < 32) : Rc32.maskOf [a] = 2 ^ a := by
  refine (mask_of_bits fun c => ?_).symm
  rw [Nat.testBit_two_pow]
  by_cases e : a = c
  · subst e; simp [h]
  · have : ¬ c = a := fun z => e z.symm
    simp [e, this]
theorem mask_xor_sub {a b : List Nat} (hs : ∀ c ∈ b, c ∈ a) : Rc32.maskOf (a.filter fun c => !b.contains c) = Rc32.maskOf a ^^^ Rc32.maskOf b := by
  refine (mask_of_bits fun c => ?_).symm
  rw [Nat.testBit_xor, mask_testBit, mask_testBit]
  simp only [List.contains_eq_mem, List.mem_filter]
  by_cases h : c < 32
  · by_cases hb : c ∈ b
    · simp [h, hb, hs c hb]
    · simp [h, hb]
  · simp [h]
end Tc

/-! The list of calls, read from the front: what one call is, and what the answers are. Plain Lean. -/
namespace Tc
open PyFlat

/-- the calls of a list, whatever fuel is enough -/
def CallsOf (l : List Int) (cs : List (List (List Int))) : Prop := ∃ n, PyFlat.calls PyRc32.shape n l = some cs
theorem callsOf_nil_inv {cs : List (List (List Int))} (h : CallsOf [] cs) : cs = [] := by
  obtain ⟨n, h⟩ := h
  cases n <;> (simp only [PyFlat.calls] at h; exact (Option.some.inj h).symm)
theorem callsOf_cons_inv {p : Int} {r : List Int} {cs : List (List (List Int))} (h : CallsOf (p :: r) cs) :
    ∃ c t cs', PyFlat.call PyRc32.shape (p :: r) = some (c, t) ∧ CallsOf t cs' ∧ cs = c :: cs' := by
  obtain ⟨n, h⟩ := h
  cases n with
  | zero => simp [PyFlat.calls] at h
  | succ n =>
    simp only [PyFlat.calls] at h
    cases e : PyFlat.call PyRc32.shape (p :: r) with
    | none => rw [e] at h; cases h
    | some ct =>
      obtain ⟨c, t⟩ := ct
      rw [e] at h
      simp only at h
      cases e2 : PyFlat.calls PyRc32.shape n t with
      | none => rw [e2] at h; cases h
      | some cs' =>
        rw [e2] at h
        exact ⟨c, t, cs', rfl, ⟨n, e2⟩, (Option.some.inj h).symm⟩

/-- one call at the front of a list, and what is behind it -/
inductive One : List Int → List (List Int) → List Int → Prop
  | begin (t : List Int) : One (0 :: t) [[0]] t
  | deal (cards t : List Int) (hl : cards.length = 32) (hb : ∀ z ∈ cards, 0 ≤ z ∧ z < 256) : One (1 :: 32 :: (cards ++ t)) [[1], cards] t
  | speak (x : Int) (t : List Int) : One (2 :: x :: t) [[2, x]] t
  | take (x : Int) (t : List Int) : One (3 :: x :: t) [[3, x]] t
  | lay (a b : Int) (t : List Int) : One (4 :: a :: b :: t) [[4, a, b]] t
  | declare (a b : Int) (t : List Int) : One (5 :: a :: b :: t) [[5, a, b]] t
  | play (x : Int) (t : List Int) : One (6 :: x :: t) [[6, x]] t
  | legal (t : List Int) : One (7 :: t) [[7]] t
  | hand (x : Int) (t : List Int) : One (8 :: x :: t) [[8, x]] t
  | state (t : List Int) : One (9 :: t) [[9]] t
  | result (t : List Int) : One (10 :: t) [[10]] t
  | sure (t : List Int) : One (11 :: t) [[11]] t
def shapes : List (Int × Nat × Nat) := [(0, 0, 0), (1, 0, 1), (2, 1, 0), (3, 1, 0), (4, 2, 0), (5, 2, 0), (6, 1, 0), (7, 0, 0), (8, 1, 0), (9, 0, 0), (10, 0, 0), (11, 0, 0)]
theorem shape_cases {p : Int} {n k : Nat} (h : PyRc32.shape p = some (n, k)) : (p, n, k) ∈ shapes := by
  unfold PyRc32.shape at h
  by_cases h0 : p = 0
  · rw [if_pos h0] at h; cases h; rw [h0]; decide
  rw [if_neg h0] at h
  by_cases h1 : p = 1
  · rw [if_pos h1] at h; cases h; rw [h1]; decide
  rw [if_neg h1] at h
  by_cases h2 : p = 2
  · rw [if_pos h2] at h; cases h; rw [h2]; decide
  rw [if_neg h2] at h
  by_cases h3 : p = 3
  · rw [if_pos h3] at h; cases h; rw [h3]; decide
  rw [if_neg h3] at h
  by_cases h4 : p = 4
  · rw [if_pos h4] at h; cases h; rw [h4]; decide
  rw [if_neg h4] at h
  by_cases h5 : p = 5
  · rw [if_pos h5] at h; cases h; rw [h5]; decide
  rw [if_neg h5] at h
  by_cases h6 : p = 6
  · rw [if_pos h6] at h; cases h; rw [h6]; decide
  rw [if_neg h6] at h
  by_cases h7 : p = 7
  · rw [if_pos h7] at h; cases h; rw [h7]; decide
  rw [if_neg h7] at h
  by_cases h8 : p = 8
  · rw [if_pos h8] at h; cases h; rw [h8]; decide
  rw [if_neg h8] at h
  by_cases h9 : p = 9
  · rw [if_pos h9] at h; cases h; rw [h9]; decide
  rw [if_neg h9] at h
  by_cases h10 : p = 10
  · rw [if_pos h10] at h; cases h; rw [h10]; decide
  rw [if_neg h10] at h
  by_cases h11 : p = 11
  · rw [if_pos h11] at h; cases h; rw [h11]; decide
  rw [if_neg h11] at h
  cases h
theorem take1 {r : List Int} (h : ¬ r.length < 1) : ∃ x t, r = x :: t := by
  cases r with
  | nil => simp at h
  | cons x t => exact ⟨x, t, rfl⟩
theorem take2 {r : List Int} (h : ¬ r.length < 2) : ∃ x y t, r = x :: y :: t := by
  match r with
  | [] => simp at h
  | [_] => simp at h
  | x :: y :: t => exact ⟨x, y, t, rfl⟩
theorem one_of_call {p : Int} {r t : List Int} {c : List (List Int)} (h : PyFlat.call PyRc32.shape (p :: r) = some (c, t)) (ha : Rc32Neutral.asked1 (PyRc32.whole c) = true) : One (p :: r) c t ∧ PyRc32.whole c = c := by
  simp only [PyFlat.call] at h
  cases e : PyRc32.shape p with
  | none => rw [e] at h; cases h
  | some nk =>
    obtain ⟨n, k⟩ := nk
    rw [e] at h
    simp only at h
    split at h
    · cases h
    · rename_i hn
      have plain : k = 0 → c = [p :: r.take n] ∧ t = r.drop n := fun hk => by
        subst hk
        simp only [PyFlat.rows, Option.some.injEq, Prod.mk.injEq] at h
        exact ⟨h.1.symm, h.2.symm⟩
      have hm := shape_cases e
      simp only [shapes, List.mem_cons, Prod.mk.injEq, List.not_mem_nil, or_false] at hm
      rcases hm with ⟨hp, hn', hk⟩ | ⟨hp, hn', hk⟩ | ⟨hp, hn', hk⟩ | ⟨hp, hn', hk⟩ | ⟨hp, hn', hk⟩ | ⟨hp, hn', hk⟩ | ⟨hp, hn', hk⟩ | ⟨hp, hn', hk⟩ | ⟨hp, hn', hk⟩ | ⟨hp, hn', hk⟩ | ⟨hp, hn', hk⟩ | ⟨hp, hn', hk⟩ <;> subst hp hn' hk
      · obtain ⟨rfl, rfl⟩ := plain rfl; exact ⟨.begin _, rfl⟩
      · simp only [PyFlat.rows, List.drop_zero] at h
        cases r with
        | nil => simp [PyFlat.row] at h
        | cons m r =>
          simp only [PyFlat.row] at h
          by_cases hm : 0 ≤ m ∧ m.toNat ≤ r.length
          · rw [if_pos hm] at h
            simp only [Option.some.injEq, Prod.mk.injEq] at h
            obtain ⟨e5, e6⟩ := h
            subst e5
            subst e6
            have hw : PyRc32.whole [(1 : Int) :: List.take 0 (m :: r), r.take m.toNat] = [[1], r.take m.toNat] := rfl
            rw [hw] at ha
            simp only [Rc32Neutral.asked1, Bool.and_eq_true, decide_eq_true_eq, List.all_eq_true, Rc32Neutral.natural] at ha
            obtain ⟨h1, h2⟩ := ha
            have hm2 : m = 32 := by rw [List.length_take] at h2; omega
            subst hm2
            have := One.deal (r.take 32) (r.drop 32) h2 fun z hz => ⟨(h1 z hz).1, by have := (h1 z hz).2; omega⟩
            rw [List.take_append_drop] at this
            exact ⟨this, rfl⟩
          · rw [if_neg hm] at h
            cases h
      · obtain ⟨x, t', rfl⟩ := take1 hn; obtain ⟨rfl, rfl⟩ := plain rfl; exact ⟨.speak _ _, rfl⟩
      · obtain ⟨x, t', rfl⟩ := take1 hn; obtain ⟨rfl, rfl⟩ := plain rfl; exact ⟨.take _ _, rfl⟩
      · obtain ⟨x, y, t', rfl⟩ := take2 hn; obtain ⟨rfl, rfl⟩ := plain rfl; exact ⟨.lay _ _ _, rfl⟩
      · obtain ⟨x, y, t', rfl⟩ := take2 hn; obtain ⟨rfl, rfl⟩ := plain rfl; exact ⟨.declare _ _ _, rfl⟩
      · obtain ⟨x, t', rfl⟩ := take1 hn; obtain ⟨rfl, rfl⟩ := plain rfl; exact ⟨.play _ _, rfl⟩
      · obtain ⟨rfl, rfl⟩ := plain rfl; exact ⟨.legal _, rfl⟩
      · obtain ⟨x, t', rfl⟩ := take1 hn; obtain ⟨rfl, rfl⟩ := plain rfl; exact ⟨.hand _ _, rfl⟩
      · obtain ⟨rfl, rfl⟩ := plain rfl; exact ⟨.state _, rfl⟩
      · obtain ⟨rfl, rfl⟩ := plain rfl; exact ⟨.result _, rfl⟩
      · obtain ⟨rfl, rfl⟩ := plain rfl; exact ⟨.sure _, rfl⟩

/-- calls one after another, each as it is asked -/
inductive Many : List Int → List (List (List Int)) → Prop
  | nil : Many [] []
  | cons {l t : List Int} {c : List (List Int)} {cs : List (List (List Int))} : One l c t → Many t cs → Many l (c :: cs)
theorem many_of : ∀ (cs : List (List (List Int))) {l : List Int}, CallsOf l cs → (cs.map PyRc32.whole).all Rc32Neutral.asked1 = true → Many l cs ∧ cs.map PyRc32.whole = cs
  | cs, [], h, _ => by
    obtain rfl := callsOf_nil_inv h
    exact ⟨.nil, rfl⟩
  | cs, p :: r, h, ha => by
    obtain ⟨c, t, cs', h1, h2, rfl⟩ := callsOf_cons_inv h
    rw [List.map_cons, List.all_cons, Bool.and_eq_true] at ha
    obtain ⟨o, e⟩ := one_of_call h1 ha.1
    obtain ⟨m, e2⟩ := many_of cs' h2 ha.2
    exact ⟨.cons o m, by rw [List.map_cons, e, e2]⟩
/-- what is due from a state on -/
def due (s : Rc32.Abs) (cs : List (List (List Int))) : List Int := PyFlat.told (PyFlat.played Rc32Neutral.step s cs)
theorem due_nil (s : Rc32.Abs) : due s [] = [] := rfl
theorem due_cons (s : Rc32.Abs) (c : List (List Int)) (cs : List (List (List Int))) :
    due s (c :: cs) = (((Rc32Neutral.step s c).2.length : Int) :: (Rc32Neutral.step s c).2) ++ due (Rc32Neutral.step s c).1 cs := rfl
/-- THE REQUEST: what is asked of a list, and what is due of it -/
theorem asked_many {l : List Int} (h : PyRc32.answers_asked l = true) : ∃ cs, Many l cs ∧ cs.length ≤ 300 ∧ (cs = [] ∨ ∃ r, cs = [[0]] :: r) ∧ PyRc32.answers l = due {} cs := by
  unfold PyRc32.answers_asked at h
  cases e : PyRc32.calls l with
  | none => rw [e] at h; cases h
  | some ds =>
    rw [e] at h
    simp only [Bool.and_eq_true, PyFlat.atMost, decide_eq_true_eq] at h
    obtain ⟨h1, h2⟩ := h
    simp only [Rc32Neutral.asked, Bool.and_eq_true] at h2
    obtain ⟨h2, h3⟩ := h2
    unfold PyRc32.calls at e
    cases e2 : PyFlat.calls PyRc32.shape l.length l with
    | none => rw [e2] at e; cases e
    | some cs =>
      rw [e2] at e
      simp only [Option.some.injEq] at e
      subst e
      obtain ⟨m, ew⟩ := many_of cs ⟨_, e2⟩ h2
      rw [ew] at h1 h3
      refine ⟨cs, m, h1, ?_, ?_⟩
      · cases cs with
        | nil => exact .inl rfl
        | cons c r =>
          simp only [List.head?_cons, Option.map_some, Option.getD_some, beq_iff_eq] at h3
          exact .inr ⟨r, by rw [h3]⟩
      · unfold PyRc32.answers PyRc32.calls
        rw [e2]
        simp only [ew]
        rfl
end Tc
namespace Tc
/-- a call alone -/
theorem One.alone {s t : List Int} {c : List (List Int)} (o : One s c t) : ∃ u, s = u ++ t ∧ One u c [] := by
  cases o with
  | begin t => exact ⟨[0], rfl, .begin []⟩
  | deal cards t hl hb => exact ⟨1 :: 32 :: cards, by simp, by simpa using One.deal cards [] hl hb⟩
  | speak x t => exact ⟨[2, x], rfl, .speak x []⟩
  | take x t => exact ⟨[3, x], rfl, .take x []⟩
  | lay a b t => exact ⟨[4, a, b], rfl, .lay a b []⟩
  | declare a b t => exact ⟨[5, a, b], rfl, .declare a b []⟩
  | play x t => exact ⟨[6, x], rfl, .play x []⟩
  | legal t => exact ⟨[7], rfl, .legal []⟩
  | hand x t => exact ⟨[8, x], rfl, .hand x []⟩
  | state t => exact ⟨[9], rfl, .state []⟩
  | result t => exact ⟨[10], rfl, .result []⟩
  | sure t => exact ⟨[11], rfl, .sure []⟩
/-- an answer has one to seven numbers -/
theorem step_len {s : Rc32.Abs} {u t : List Int} {c : List (List Int)} (o : One u c t) : 1 ≤ (Rc32Neutral.step s c).2.length ∧ (Rc32Neutral.step s c).2.length ≤ 7 := by
  have gen : ∀ x : Rc32.Call, (Rc32.does s x).2.numbers.length ≤ 6 := by
    intro x
    have go : ∀ o : Option Rc32.Game, (Rc32.goesOn s o).2.numbers.length ≤ 6 := fun o => by cases o <;> simp [Rc32.goesOn, Rc32.refused]
    cases x <;> simp only [Rc32.does] <;> (repeat' split) <;> first | exact go _ | simp [Rc32.refused, Rc32.noGame]
  have fin : ∀ x : Rc32.Call, Rc32Neutral.callOf c = some x → 1 ≤ (Rc32Neutral.step s c).2.length ∧ (Rc32Neutral.step s c).2.length ≤ 7 := fun x e => by
    unfold Rc32Neutral.step
    rw [e]
    have := gen x
    simp only [List.length_cons, List.length_map]
    omega
  cases o <;> exact fin _ rfl
end Tc

/-! What holds of every game that the specification comes to. Plain Lean. -/
namespace Tc
open Rc32

theorem flatten_set_sublist {α : Type} : ∀ (L : List (List α)) (p : Nat) (h' : List α), (∀ h, L[p]? = some h → h'.Sublist h) → (L.set p h').flatten.Sublist L.flatten
  | [], p, h', _ => by simp
  | a :: L, 0, h', hs => by
    show (h' ++ L.flatten).Sublist (a ++ L.flatten)
    exact List.Sublist.append (hs a rfl) (List.Sublist.refl _)
  | a :: L, p + 1, h', hs => by
    show (a ++ (L.set p h').flatten).Sublist (a ++ L.flatten)
    exact List.Sublist.append (List.Sublist.refl _) (flatten_set_sublist L p h' fun h e => hs h (by simpa using e))

/-- three hands and the two cards: none twice, all below 32 -/
structure Base (g : Game) : Prop where
  three : g.hands.length = 3
  nd : (g.hands.flatten ++ g.two).Nodup
  lt : ∀ c ∈ g.hands.flatten ++ g.two, c < 32
theorem hand_mem {g : Game} {p : Nat} {c : Nat} (h : c ∈ hand g p) : c ∈ g.hands.flatten := by
  unfold hand at h
  by_cases hp : p < g.hands.length
  · rw [List.getD_eq_getElem?_getD, List.getElem?_eq_getElem hp] at h
    exact List.mem_flatten.mpr ⟨_, List.getElem_mem hp, h⟩
  · rw [List.getD_eq_getElem?_getD, List.getElem?_eq_none (by omega)] at h
    simp at h
theorem hand_sublist {g : Game} {p : Nat} : (hand g p).Sublist g.hands.flatten := by
  unfold hand
  by_cases hp : p < g.hands.length
  · rw [List.getD_eq_getElem?_getD, List.getElem?_eq_getElem hp]
    exact List.sublist_flatten_of_mem (List.getElem_mem hp)
  · rw [List.getD_eq_getElem?_getD, List.getElem?_eq_none (by omega)]
    exact List.nil_sublist _
theorem Base.hand {g : Game} (b : Base g) (p : Nat) : Hand (Rc32.hand g p) :=
  ⟨fun c hc => b.lt c (List.mem_append_left _ (hand_mem hc)), b.nd.sublist (hand_sublist.trans (List.sublist_append_left _ _))⟩
theorem Base.two {g : Game} (b : Base g) : Hand g.two :=
  ⟨fun c hc => b.lt c (List.mem_append_right _ hc), b.nd.sublist (List.sublist_append_right _ _)⟩
/-- a hand made smaller -/
theorem Base.less {g g' : Game} (b : Base g) {p : Nat} {q : Nat → Bool} (h1 : g'.hands = g.hands.set p ((Rc32.hand g p).filter q)) (h2 : g'.two = g.two) : Base g' := by
  have s : g'.hands.flatten.Sublist g.hands.flatten := by
    rw [h1]
    refine flatten_set_sublist _ _ _ fun h e => ?_
    unfold Rc32.hand
    rw [List.getD_eq_getElem?_getD, e]
    exact List.filter_sublist
  have s2 : (g'.hands.flatten ++ g'.two).Sublist (g.hands.flatten ++ g.two) := by rw [h2]; exact s.append (List.Sublist.refl _)
  exact ⟨by rw [h1, List.length_set]; exact b.three, b.nd.sublist s2, fun c hc => b.lt c (s2.subset hc)⟩
theorem three_cases {α : Type} {L : List α} (h : L.length = 3) : ∃ a b c, L = [a, b, c] := by
  match L, h with
  | [a, b, c], _ => exact ⟨a, b, c, rfl⟩
/-- the two taken -/
theorem Base.taken {g g' : Game} (b : Base g) {p : Nat} (hp : p < 3) (h1 : g'.hands = g.hands.set p (Rc32.hand g p ++ g.two)) (h2 : g'.two = []) : Base g' := by
  obtain ⟨x, y, z, e⟩ := three_cases b.three
  have perm : (g'.hands.flatten ++ g'.two).Perm (g.hands.flatten ++ g.two) := by
    rw [h1, h2]
    unfold Rc32.hand
    rw [e]
    match p, hp with
    | 0, _ =>
      show ([x ++ g.two, y, z].flatten ++ []).Perm ([x, y, z].flatten ++ g.two)
      simp only [List.flatten_cons, List.flatten_nil, List.append_nil, List.append_assoc]
      refine List.Perm.append_left _ ?_
      rw [← List.append_assoc y z g.two]
      exact List.perm_append_comm
    | 1, _ =>
      show ([x, y ++ g.two, z].flatten ++ []).Perm ([x, y, z].flatten ++ g.two)
      simp only [List.flatten_cons, List.flatten_nil, List.append_nil, List.append_assoc]
      refine List.Perm.append_left _ (List.Perm.append_left _ ?_)
      exact List.perm_append_comm
    | 2, _ =>
      show ([x, y, z ++ g.two].flatten ++ []).Perm ([x, y, z].flatten ++ g.two)
      simp only [List.flatten_cons, List.flatten_nil, List.append_nil, List.append_assoc]
      exact List.Perm.refl _
  refine ⟨by rw [h1, List.length_set]; exact b.three, perm.nodup_iff.mpr b.nd, fun c hc => b.lt c (perm.mem_iff.mp hc)⟩
/-- two laid away -/
theorem Base.laid {g g' : Game} (b : Base g) {p x y : Nat} (hp : p < 3) (hx : x ∈ Rc32.hand g p) (hy : y ∈ Rc32.hand g p) (ne : x ≠ y)
    (h1 : g'.hands = g.hands.set p ((Rc32.hand g p).filter fun c => c != x && c != y)) (h2 : g'.two = [x, y]) : Base g' := by
  have s : g'.hands.flatten.Sublist g.hands.flatten := by
    rw [h1]
    refine flatten_set_sublist _ _ _ fun h e => ?_
    unfold Rc32.hand
    rw [List.getD_eq_getElem?_getD, e]
    exact List.filter_sublist
  have nd0 : g.hands.flatten.Nodup := (List.nodup_append.mp b.nd).1
  have lt0 : ∀ c ∈ g.hands.flatten, c < 32 := fun c hc => b.lt c (List.mem_append_left _ hc)
  -- x, y lie in no hand of g'
  have out : ∀ c, c ∈ g'.hands.flatten → c ≠ x ∧ c ≠ y := by
    obtain ⟨u, v, w, e⟩ := three_cases b.three
    rw [e] at nd0
    have nd1 : (u ++ (v ++ w)).Nodup := by simpa using nd0
    obtain ⟨n1, n2, n3⟩ := List.nodup_append.mp nd1
    obtain ⟨n4, n5, n6⟩ := List.nodup_append.mp n2
    unfold Rc32.hand at hx hy h1
    rw [e] at hx hy h1
    intro c hc
    rw [h1] at hc
    match p, hp, hx, hy, hc with
    | 0, _, hx, hy, hc =>
      have hc' : c ∈ (u.filter fun c => c != x && c != y) ++ (v ++ w) := by simpa using hc
      rcases List.mem_append.mp hc' with h | h
      · have := (List.mem_filter.mp h).2; simpa using this
      · exact ⟨fun z => n3 x hx c h z.symm, fun z => n3 y hy c h z.symm⟩
    | 1, _, hx, hy, hc =>
      have hc' : c ∈ u ++ ((v.filter fun c => c != x && c != y) ++ w) := by simpa using hc
      have hx' : x ∈ v := hx
      have hy' : y ∈ v := hy
      rcases List.mem_append.mp hc' with h | h
      · exact ⟨n3 c h x (List.mem_append_left _ hx'), n3 c h y (List.mem_append_left _ hy')⟩
      · rcases List.mem_append.mp h with h | h
        · have := (List.mem_filter.mp h).2; simpa using this
        · exact ⟨fun z => n6 x hx' c h z.symm, fun z => n6 y hy' c h z.symm⟩
    | 2, _, hx, hy, hc =>
      have hc' : c ∈ u ++ (v ++ (w.filter fun c => c != x && c != y)) := by simpa using hc
      have hx' : x ∈ w := hx
      have hy' : y ∈ w := hy
      rcases List.mem_append.mp hc' with h | h
      · exact ⟨n3 c h x (List.mem_append_right _ hx'), n3 c h y (List.mem_append_right _ hy')⟩
      · rcases List.mem_append.mp h with h | h
        · exact ⟨n6 c h x hx', n6 c h y hy'⟩
        · have := (List.mem_filter.mp h).2; simpa using this
  refine ⟨by rw [h1, List.length_set]; exact b.three, ?_, fun c hc => ?_⟩
  · rw [h2]
    refine List.nodup_append.mpr ⟨nd0.sublist s, by simp [ne], fun a ha c hc => ?_⟩
    simp only [List.mem_cons, List.not_mem_nil, or_false] at hc
    rcases hc with e | e
    · subst e; exact (out a ha).1
    · subst e; exact (out a ha).2
  · rw [h2] at hc
    rcases List.mem_append.mp hc with h | h
    · exact lt0 c (s.subset h)
    · simp only [List.mem_cons, List.not_mem_nil, or_false] at h
      rcases h with e | e
      · subst e; exact lt0 _ (hand_mem hx)
      · subst e; exact lt0 _ (hand_mem hy)

theorem perm_of_sub : ∀ {a b : List Nat}, a.Nodup → (∀ x ∈ a, x ∈ b) → b.length ≤ a.length → a.Perm b
  | [], b, _, _, h => by
    cases b with
    | nil => exact .refl _
    | cons _ _ => simp at h
  | x :: r, b, nd, sub, h => by
    obtain ⟨n1, n2⟩ := List.nodup_cons.mp nd
    have hx : x ∈ b := sub x (List.mem_cons_self ..)
    have p := List.perm_cons_erase hx
    have l := p.length_eq
    refine (List.Perm.cons x (perm_of_sub n2 (fun y hy => ?_) ?_)).trans p.symm
    · have ne : y ≠ x := fun e => n1 (by rw [← e]; exact hy)
      exact (List.mem_erase_of_ne ne).mpr (sub y (List.mem_cons_of_mem _ hy))
    · simp only [List.length_cons] at l h
      omega
/-- a whole deck: each card just once -/
theorem whole_perm {l : List Nat} (hl : l.length = 32) (h : whole l = true) : l.Perm (List.range 32) := by
  unfold whole at h
  rw [List.all_eq_true] at h
  have sub : ∀ c ∈ List.range 32, c ∈ l := fun c hc => by have := h c hc; simpa using this
  exact (perm_of_sub List.nodup_range sub (by rw [hl, List.length_range]; exact Nat.le_refl _)).symm
theorem perm_whole {l : List Nat} (h : l.Perm (List.range 32)) : whole l = true := by
  unfold whole
  rw [List.all_eq_true]
  intro c hc
  have := h.mem_iff.mpr hc
  simpa using this
theorem deal_parts (l : List Nat) (hl : l.length = 32) : [l.take 10, (l.drop 10).take 10, (l.drop 20).take 10].flatten ++ (l.drop 30).take 2 = l := by
  have e1 : (l.drop 30).take 2 = l.drop 30 := List.take_of_length_le (by rw [List.length_drop]; omega)
  simp only [List.flatten_cons, List.flatten_nil, List.append_nil, e1, List.append_assoc]
  have e2 : (l.drop 20).take 10 ++ l.drop 30 = l.drop 20 := by
    have := List.take_append_drop 10 (l.drop 20); rwa [List.drop_drop] at this
  have e3 : (l.drop 10).take 10 ++ l.drop 20 = l.drop 10 := by
    have := List.take_append_drop 10 (l.drop 10); rwa [List.drop_drop] at this
  rw [e2, e3, List.take_append_drop]
end Tc

/-! What holds of every game that the specification comes to, phase by phase; every call keeps it. Plain Lean. -/
namespace Tc
open Rc32

structure Fresh (g : Game) : Prop where
  trick : g.trick = []
  lead : g.lead = 0
  points : g.points = 0
  tricks : g.tricks = 0
  played : g.played = 0
/-- ten cards each -/
def Ten (g : Game) : Prop := ∀ p, p < 3 → (hand g p).length = 10
/-- who has played in this trick -/
def played1 (g : Game) (p : Nat) : Nat := if (p + 3 - g.lead) % 3 < g.trick.length then 1 else 0
structure Playing (g : Game) : Prop where
  lens : ∀ p, p < 3 → (hand g p).length + g.played + played1 g p = 10
  lead : g.lead < 3
  trick : g.trick.length < 3
  played : g.played < 10
  game : g.game ≤ 5
  cards : ∀ c ∈ g.trick, c < 32
  points : g.points ≤ 22 + 33 * g.played
  null : g.game = 5 → g.tricks = 0
  tricks : g.tricks ≤ g.played
def PhOk (g : Game) : Prop := match g.phase with
  | .bidding b l _ => Ten g ∧ g.two.length = 2 ∧ ((b = 1 ∧ l = 0) ∨ (b = 2 ∧ l = 0) ∨ (b = 2 ∧ l = 1)) ∧ g.alone = none ∧ g.byHand = true ∧ Fresh g
  | .lastWord => Ten g ∧ g.two.length = 2 ∧ g.alone = none ∧ g.byHand = true ∧ Fresh g
  | .choosing => Ten g ∧ g.two.length = 2 ∧ (∃ p, p < 3 ∧ g.alone = some p) ∧ g.byHand = true ∧ Fresh g
  | .laying => (∃ p, p < 3 ∧ g.alone = some p ∧ (hand g p).length = 12 ∧ ∀ q, q < 3 → q ≠ p → (hand g q).length = 10) ∧ g.two = [] ∧ g.byHand = false ∧ Fresh g
  | .declaring => Ten g ∧ g.two.length = 2 ∧ (∃ p, p < 3 ∧ g.alone = some p) ∧ Fresh g
  | .playing => (∃ p, p < 3 ∧ g.alone = some p) ∧ Playing g
  | .over => (g.alone = none ∧ Fresh g) ∨ ((∃ p, p < 3 ∧ g.alone = some p) ∧ g.game ≤ 5 ∧ g.trick = [] ∧ g.points ≤ 352 ∧ g.tricks ≤ 10)
structure Wf (g : Game) : Prop where
  base : Base g
  ph : PhOk g
def WfS (s : Abs) : Prop := ∀ g, s.game = some g → Wf g
theorem wfS_none : WfS {} := fun g h => by cases h

theorem hand_set {g g' : Game} {p q : Nat} {h : List Nat} (e : g'.hands = g.hands.set p h) (h3 : g.hands.length = 3) (hp : p < 3) : hand g' q = if q = p then h else hand g q := by
  unfold hand
  rw [e, List.getD_eq_getElem?_getD, List.getD_eq_getElem?_getD, List.getElem?_set]
  by_cases hq : p = q
  · subst hq
    rw [if_pos rfl, if_pos (by rw [h3]; exact hp), if_pos rfl]
    rfl
  · rw [if_neg hq, if_neg (fun z => hq z.symm)]
theorem filter_ne_length : ∀ {l : List Nat} {c : Nat}, l.Nodup → c ∈ l → (l.filter fun d => d != c).length + 1 = l.length
  | [], c, _, h => by simp at h
  | a :: r, c, nd, h => by
    obtain ⟨n1, n2⟩ := List.nodup_cons.mp nd
    by_cases e : a = c
    · subst e
      have : r.filter (fun d => d != a) = r := List.filter_eq_self.mpr fun d hd => by
        have : d ≠ a := fun z => n1 (by rw [← z]; exact hd)
        simpa using this
      rw [List.filter_cons_of_neg (by simp), this, List.length_cons]
    · have hr : c ∈ r := by
        rcases List.mem_cons.mp h with z | z
        · exact absurd z.symm e
        · exact z
      rw [List.filter_cons_of_pos (by simpa using e), List.length_cons, List.length_cons, filter_ne_length n2 hr]
theorem filter_two_length {l : List Nat} {x y : Nat} (nd : l.Nodup) (hx : x ∈ l) (hy : y ∈ l) (ne : x ≠ y) : (l.filter fun c => c != x && c != y).length + 2 = l.length := by
  have e : (l.filter fun c => c != x && c != y) = (l.filter fun c => c != y).filter fun c => c != x := by rw [List.filter_filter]
  have n1 := filter_ne_length nd hy
  have hx' : x ∈ l.filter fun c => c != y := List.mem_filter.mpr ⟨hx, by simpa using ne⟩
  have n2 := filter_ne_length (nd.sublist List.filter_sublist) hx'
  rw [e]
  omega
theorem ofDeal {l : List Nat} (hl : l.length = 32) (h : whole l = true) :
    Wf { hands := [l.take 10, (l.drop 10).take 10, (l.drop 20).take 10], two := (l.drop 30).take 2, phase := .bidding 1 0 false } := by
  have p := whole_perm hl h
  have e := deal_parts l hl
  refine ⟨⟨rfl, ?_, fun c hc => ?_⟩, ?_, ?_, .inl ⟨rfl, rfl⟩, rfl, rfl, ⟨rfl, rfl, rfl, rfl, rfl⟩⟩
  · show (([l.take 10, (l.drop 10).take 10, (l.drop 20).take 10] : List (List Nat)).flatten ++ (l.drop 30).take 2).Nodup
    rw [e]; exact p.nodup_iff.mpr List.nodup_range
  · have hc' : c ∈ (([l.take 10, (l.drop 10).take 10, (l.drop 20).take 10] : List (List Nat)).flatten ++ (l.drop 30).take 2) := hc
    rw [e] at hc'
    exact List.mem_range.mp (p.mem_iff.mp hc')
  · intro q hq
    match q, hq with
    | 0, _ => show (l.take 10).length = 10; rw [List.length_take]; omega
    | 1, _ => show ((l.drop 10).take 10).length = 10; rw [List.length_take, List.length_drop]; omega
    | 2, _ => show ((l.drop 20).take 10).length = 10; rw [List.length_take, List.length_drop]; omega
  · show ((l.drop 30).take 2).length = 2
    rw [List.length_take, List.length_drop]; omega
/-- nothing but the phase, the bid and who plays alone has changed -/
theorem Base.same {g g' : Game} (b : Base g) (h1 : g'.hands = g.hands) (h2 : g'.two = g.two) : Base g' := ⟨by rw [h1]; exact b.three, by rw [h1, h2]; exact b.nd, by rw [h1, h2]; exact b.lt⟩
theorem ten_same {g g' : Game} (h : Ten g) (h1 : g'.hands = g.hands) : Ten g' := fun p hp => by unfold hand; rw [h1]; exact h p hp

theorem Fresh.of {g g' : Game} (f : Fresh g) (h1 : g'.trick = g.trick) (h2 : g'.lead = g.lead) (h3 : g'.points = g.points) (h4 : g'.tricks = g.tricks) (h5 : g'.played = g.played) : Fresh g' :=
  ⟨h1.trans f.trick, h2.trans f.lead, h3.trans f.points, h4.trans f.tricks, h5.trans f.played⟩
theorem wf_passed {g : Game} {b l : Nat} {a : Bool} (w : Wf g) (hp : g.phase = .bidding b l a) (c : Bool) : Wf (passed g b l c) := by
  obtain ⟨wb, wp⟩ := w
  unfold PhOk at wp
  rw [hp] at wp
  obtain ⟨t, t2, bl, al, bh, fr⟩ := wp
  have w3 : (if c = true then b else l) < 3 := by split <;> omega
  unfold passed
  simp only
  split
  · split
    · exact ⟨wb.same rfl rfl, ten_same t rfl, t2, al, bh, fr.of rfl rfl rfl rfl rfl⟩
    · exact ⟨wb.same rfl rfl, ten_same t rfl, t2, ⟨_, w3, rfl⟩, bh, fr.of rfl rfl rfl rfl rfl⟩
  · rename_i hb
    refine ⟨wb.same rfl rfl, ten_same t rfl, t2, ?_, al, bh, fr.of rfl rfl rfl rfl rfl⟩
    rcases bl with ⟨h1, h2⟩ | ⟨h1, h2⟩ | ⟨h1, h2⟩
    · subst h1 h2
      cases c
      · exact .inr (.inl ⟨rfl, rfl⟩)
      · exact .inr (.inr ⟨rfl, rfl⟩)
    · exact absurd (.inl h1) hb
    · exact absurd (.inl h1) hb
theorem wf_speak {g h : Game} {x : Nat} (w : Wf g) (e : speak g x = some h) : Wf h := by
  unfold speak at e
  split at e
  · rename_i b l hp
    split at e
    · cases e; exact wf_passed w hp _
    · split at e
      · cases e
        obtain ⟨wb, wp⟩ := w
        unfold PhOk at wp
        rw [hp] at wp
        obtain ⟨t, t2, bl, al, bh, fr⟩ := wp
        exact ⟨wb.same rfl rfl, ten_same t rfl, t2, bl, al, bh, fr.of rfl rfl rfl rfl rfl⟩
      · cases e
  · rename_i b l hp
    split at e
    · cases e; exact wf_passed w hp _
    · split at e
      · cases e
        obtain ⟨wb, wp⟩ := w
        unfold PhOk at wp
        rw [hp] at wp
        obtain ⟨t, t2, bl, al, bh, fr⟩ := wp
        exact ⟨wb.same rfl rfl, ten_same t rfl, t2, bl, al, bh, fr.of rfl rfl rfl rfl rfl⟩
      · cases e
  · rename_i hp
    obtain ⟨wb, wp⟩ := w
    unfold PhOk at wp
    rw [hp] at wp
    obtain ⟨t, t2, al, bh, fr⟩ := wp
    split at e
    · cases e
      exact ⟨wb.same rfl rfl, .inl ⟨al, fr.of rfl rfl rfl rfl rfl⟩⟩
    · split at e
      · cases e
        exact ⟨wb.same rfl rfl, ten_same t rfl, t2, ⟨0, by decide, rfl⟩, bh, fr.of rfl rfl rfl rfl rfl⟩
      · cases e
  · cases e

theorem points_le (c : Nat) : points c ≤ 11 := by
  unfold points rank
  have h : c % 8 < 8 := Nat.mod_lt _ (by decide)
  generalize c % 8 = r at h
  match r, h with
  | 0, _ => decide
  | 1, _ => decide
  | 2, _ => decide
  | 3, _ => decide
  | 4, _ => decide
  | 5, _ => decide
  | 6, _ => decide
  | 7, _ => decide
theorem sum_points_le : ∀ l : List Nat, (l.map points).sum ≤ 11 * l.length
  | [] => by simp
  | c :: r => by
    have h1 := points_le c
    have h2 := sum_points_le r
    rw [List.map_cons, List.sum_cons, List.length_cons]
    omega
theorem turn_playing {g : Game} (h : g.phase = .playing) : turn g = (g.lead + g.trick.length) % 3 := by unfold turn; rw [h]
theorem legal_mem {game : Nat} {hand trick : List Nat} {c : Nat} (h : c ∈ legal game hand trick) : c ∈ hand := by
  unfold legal at h
  split at h
  · exact h
  · simp only at h
    split at h
    · exact h
    · exact (List.mem_filter.mp h).1
theorem taker_lt {game : Nat} {l : List Nat} (hl : 0 < l.length) : taker game l < l.length := by
  unfold taker
  have gen : ∀ (is : List Nat) (k : Nat), k < l.length → (∀ i ∈ is, i < l.length) → is.foldl (fun k i => if beats game (l.getD 0 0) (l.getD i 0) (l.getD k 0) = true then i else k) k < l.length := by
    intro is
    induction is with
    | nil => intro k hk _; exact hk
    | cons i r ih =>
      intro k hk hi
      rw [List.foldl_cons]
      refine ih _ ?_ fun j hj => hi j (List.mem_cons_of_mem _ hj)
      split
      · exact hi i (List.mem_cons_self ..)
      · exact hk
  exact gen _ 0 hl fun i hi => List.mem_range.mp hi
/-- what play does, in a word: the card is legal; the hand is smaller by it -/
theorem wf_play {g h : Game} {c : Nat} (w : Wf g) (e : play g c = some h) : Wf h := by
  unfold play at e
  simp only at e
  split at e
  · cases e
  · rename_i hn
    have hph : g.phase = .playing := Classical.byContradiction fun z => hn (.inl z)
    have hc : (legal g.game (hand g (turn g)) g.trick).contains c = true := by
      cases q : (legal g.game (hand g (turn g)) g.trick).contains c with
      | true => rfl
      | false => exact absurd (.inr q) hn
    have hmem : c ∈ hand g (turn g) := legal_mem (by simpa using hc)
    obtain ⟨wb, wp⟩ := w
    unfold PhOk at wp
    rw [hph] at wp
    obtain ⟨⟨p, hp3, hal⟩, pl⟩ := wp
    have ht := turn_playing hph
    have ht3 : turn g < 3 := by rw [ht]; exact Nat.mod_lt _ (by decide)
    have c32 : c < 32 := (wb.hand (turn g)).lt c hmem
    have hlen := filter_ne_length (wb.hand (turn g)).nd hmem
    have L := pl.lens (turn g) ht3
    have lead3 := pl.lead
    have trick3 := pl.trick
    have hnot : played1 g (turn g) = 0 := by
      unfold played1
      rw [ht, if_neg]
      have : g.lead = 0 ∨ g.lead = 1 ∨ g.lead = 2 := by omega
      have : g.trick.length = 0 ∨ g.trick.length = 1 ∨ g.trick.length = 2 := by omega
      omega
    have cards' : ∀ d ∈ g.trick ++ [c], d < 32 := fun d hd => by
      rcases List.mem_append.mp hd with z | z
      · exact pl.cards d z
      · simp at z; rw [z]; exact c32
    split at e
    · rename_i hl3
      cases e
      have hl3' : g.trick.length + 1 < 3 := by simpa using hl3
      refine ⟨wb.less (p := turn g) (q := fun d => d != c) rfl rfl, ?_⟩
      unfold PhOk
      show match g.phase with | _ => _
      simp only [hph]
      refine ⟨⟨p, hp3, hal⟩, ?_⟩
      refine ⟨fun q hq => ?_, lead3, by simpa using hl3, pl.played, pl.game, cards', pl.points, pl.null, pl.tricks⟩
      have hs : ∀ k : Game, k.hands = drop g (turn g) c → hand k q = _ := fun k hk => hand_set (g := g) (g' := k) (p := turn g) (q := q) (h := (hand g (turn g)).filter fun d => d != c) hk wb.three ht3
      rw [hs _ rfl]
      show (if q = turn g then _ else _ : List Nat).length + g.played + (if (q + 3 - g.lead) % 3 < (g.trick ++ [c]).length then 1 else 0) = 10
      have Lq := pl.lens q hq
      unfold played1 at Lq
      rw [List.length_append, List.length_singleton]
      by_cases hqt : q = turn g
      · rw [if_pos hqt]
        have e1 : (q + 3 - g.lead) % 3 = g.trick.length := by rw [hqt, ht]; have : g.lead = 0 ∨ g.lead = 1 ∨ g.lead = 2 := by omega
                                                              have : g.trick.length = 0 ∨ g.trick.length = 1 := by omega
                                                              omega
        rw [if_pos (by omega)]
        rw [hnot] at L
        omega
      · rw [if_neg hqt]
        have e1 : (q + 3 - g.lead) % 3 ≠ g.trick.length := fun z => hqt (by
          rw [ht]
          have : g.lead = 0 ∨ g.lead = 1 ∨ g.lead = 2 := by omega
          have : g.trick.length = 0 ∨ g.trick.length = 1 := by omega
          omega)
        by_cases h2 : (q + 3 - g.lead) % 3 < g.trick.length
        · rw [if_pos h2] at Lq; rw [if_pos (by omega)]; exact Lq
        · rw [if_neg h2] at Lq; rw [if_neg (by omega)]; exact Lq
    · rename_i hl3
      have hl3' : g.trick.length = 2 := by
        have : ¬ g.trick.length + 1 < 3 := by simpa using hl3
        omega
      have tk : taker g.game (g.trick ++ [c]) < 3 := by
        have := taker_lt (game := g.game) (l := g.trick ++ [c]) (by simp)
        rw [List.length_append, List.length_singleton, hl3'] at this
        exact this
      have w3 : (g.lead + taker g.game (g.trick ++ [c])) % 3 < 3 := Nat.mod_lt _ (by decide)
      have sp := sum_points_le (g.trick ++ [c])
      rw [List.length_append, List.length_singleton, hl3'] at sp
      -- the hands behind a whole trick
      have lens' : ∀ (k : Game), k.hands = drop g (turn g) c → ∀ q, q < 3 → (hand k q).length + (g.played + 1) = 10 := by
        intro k hk q hq
        have hs := hand_set (g := g) (g' := k) (p := turn g) (q := q) (h := (hand g (turn g)).filter fun d => d != c) hk wb.three ht3
        rw [hs]
        have Lq := pl.lens q hq
        unfold played1 at Lq
        rw [hl3'] at Lq
        by_cases hqt : q = turn g
        · rw [if_pos hqt]
          rw [hnot] at L
          omega
        · rw [if_neg hqt]
          have e1 : (q + 3 - g.lead) % 3 < 2 := by
            have : (q + 3 - g.lead) % 3 ≠ 2 := fun z => hqt (by
              rw [ht, hl3']
              have : g.lead = 0 ∨ g.lead = 1 ∨ g.lead = 2 := by omega
              omega)
            omega
          rw [if_pos e1] at Lq
          omega
      have pts : ∀ b : Bool, g.points + (if b = true then ((g.trick ++ [c]).map points).sum else 0) ≤ 22 + 33 * (g.played + 1) := fun b => by
        have := pl.points
        split <;> omega
      have trs : ∀ b : Bool, g.tricks + b.toNat ≤ g.played + 1 := fun b => by
        have := pl.tricks
        cases b <;> simp <;> omega
      have p10 := pl.played
      split at e
      · cases e
        refine ⟨wb.less (p := turn g) (q := fun d => d != c) rfl rfl, .inr ⟨⟨p, hp3, hal⟩, pl.game, rfl, ?_, ?_⟩⟩
        · have := pts (g.alone == some ((g.lead + taker g.game (g.trick ++ [c])) % 3))
          exact Nat.le_trans this (by omega)
        · have := trs (g.alone == some ((g.lead + taker g.game (g.trick ++ [c])) % 3))
          exact Nat.le_trans this (by omega)
      · rename_i hov
        cases e
        refine ⟨wb.less (p := turn g) (q := fun d => d != c) rfl rfl, ?_⟩
        unfold PhOk
        simp only [hph]
        refine ⟨⟨p, hp3, hal⟩, fun q hq => ?_, w3, by simp, ?_, pl.game, by simp, pts _, fun h5 => ?_, trs _⟩
        · show _ + (g.played + 1) + played1 _ q = 10
          have : ∀ k : Game, k.trick = [] → played1 k q = 0 := fun k hk => by unfold played1; rw [hk]; simp
          rw [this _ rfl]
          exact lens' _ rfl q hq
        · show g.played + 1 < 10
          have : ¬ g.played + 1 = 10 := fun z => hov (.inl z)
          omega
        · have hm : (g.alone == some ((g.lead + taker g.game (g.trick ++ [c])) % 3)) = false := by
            cases q : (g.alone == some ((g.lead + taker g.game (g.trick ++ [c])) % 3)) with
            | false => rfl
            | true => exact absurd (.inr ⟨h5, q⟩) hov
          show g.tricks + (g.alone == some ((g.lead + taker g.game (g.trick ++ [c])) % 3)).toNat = 0
          rw [hm, pl.null h5]
          rfl
theorem wf_take {g : Game} (w : Wf g) (hp : g.phase = .choosing) : Wf { g with phase := .declaring, own := hand g (g.alone.getD 0) ++ g.two } ∧
    Wf { g with phase := .laying, byHand := false, own := hand g (g.alone.getD 0) ++ g.two, hands := g.hands.set (g.alone.getD 0) (hand g (g.alone.getD 0) ++ g.two), two := [] } := by
  obtain ⟨wb, wp⟩ := w
  unfold PhOk at wp
  rw [hp] at wp
  obtain ⟨t, t2, ⟨p, hp3, al⟩, bh, fr⟩ := wp
  have ea : g.alone.getD 0 = p := by rw [al]; rfl
  rw [ea]
  refine ⟨⟨wb.same rfl rfl, ten_same t rfl, t2, ⟨p, hp3, al⟩, fr.of rfl rfl rfl rfl rfl⟩, ⟨wb.taken (p := p) hp3 rfl rfl, ⟨p, hp3, al, ?_, fun q hq ne => ?_⟩, rfl, rfl, fr.of rfl rfl rfl rfl rfl⟩⟩
  · rw [hand_set (g := g) (p := p) (h := hand g p ++ g.two) rfl wb.three hp3, if_pos rfl, List.length_append, t p hp3, t2]
  · rw [hand_set (g := g) (p := p) (h := hand g p ++ g.two) rfl wb.three hp3, if_neg ne, t q hq]
theorem wf_lay {g : Game} {x y : Nat} (w : Wf g) (hp : g.phase = .laying) (hx : x ∈ hand g (g.alone.getD 0)) (hy : y ∈ hand g (g.alone.getD 0)) (ne : x ≠ y) :
    Wf { g with phase := .declaring, two := [x, y], hands := g.hands.set (g.alone.getD 0) ((hand g (g.alone.getD 0)).filter fun c => c != x && c != y) } := by
  obtain ⟨wb, wp⟩ := w
  unfold PhOk at wp
  rw [hp] at wp
  obtain ⟨⟨p, hp3, al, t12, t10⟩, t2, bh, fr⟩ := wp
  have ea : g.alone.getD 0 = p := by rw [al]; rfl
  rw [ea] at hx hy ⊢
  refine ⟨wb.laid (p := p) hp3 hx hy ne rfl rfl, fun q hq => ?_, rfl, ⟨p, hp3, al⟩, fr.of rfl rfl rfl rfl rfl⟩
  rw [hand_set (g := g) (p := p) (h := (hand g p).filter fun c => c != x && c != y) rfl wb.three hp3]
  by_cases e : q = p
  · rw [if_pos e]
    have := filter_two_length (wb.hand p).nd hx hy ne
    omega
  · rw [if_neg e]; exact t10 q hq e
theorem wf_declare {g : Game} {k said : Nat} (w : Wf g) (hp : g.phase = .declaring) (hk : k ≤ 5) : Wf { g with phase := .playing, game := k, said := said, points := (g.two.map points).sum, lead := 0 } := by
  obtain ⟨wb, wp⟩ := w
  unfold PhOk at wp
  rw [hp] at wp
  obtain ⟨t, t2, ⟨p, hp3, al⟩, fr⟩ := wp
  have sp := sum_points_le g.two
  refine ⟨wb.same rfl rfl, ⟨p, hp3, al⟩, fun q hq => ?_, by simp, ?_, ?_, hk, ?_, ?_, fun _ => fr.tricks, ?_⟩
  · have h1 : ∀ k : Game, k.trick = [] → played1 k q = 0 := fun k hk => by unfold played1; rw [hk]; simp
    have hz := h1 { g with phase := .playing, game := k, said := said, points := (g.two.map points).sum, lead := 0 } fr.trick
    rw [hz]
    have h10 := t q hq
    show (hand g q).length + g.played + 0 = 10
    rw [h10, fr.played]
  · show g.trick.length < 3
    rw [fr.trick]; decide
  · show g.played < 10
    rw [fr.played]; decide
  · show ∀ c ∈ g.trick, c < 32
    rw [fr.trick]; simp
  · show (g.two.map points).sum ≤ 22 + 33 * g.played
    rw [fr.played]; omega
  · show g.tricks ≤ g.played
    rw [fr.tricks]; omega
theorem natOf_lt {x : Int} {n : Nat} (h : natOf x < n) (hn : n ≤ 1000) : 0 ≤ x ∧ x < n := by
  unfold natOf at h
  split at h <;> omega
/-- EVERY CALL KEEPS IT (a deal: of 32 numbers) -/
theorem wf_does {s : Abs} {c : Call} (w : WfS s) (hd : ∀ l, c = .deal l → l.length = 32) : WfS (does s c).1 := by
  have go : ∀ o : Option Game, (∀ h, o = some h → Wf h) → WfS (goesOn s o).1 := fun o ho => by
    cases o with
    | none => exact w
    | some h => intro g' e; cases e; exact ho h rfl
  cases c with
  | init => exact wfS_none
  | deal l =>
    show WfS (if whole l = false then _ else _ : Abs × Ans).1
    split
    · exact w
    · rename_i h
      intro g e
      cases e
      exact ofDeal (hd l rfl) (by simpa using h)
  | speak x =>
    show WfS (match s.game with | none => (s, noGame) | some g => goesOn s (speak g (natOf x))).1
    split
    · exact w
    · rename_i g hg
      exact go _ fun h e => wf_speak (w g hg) e
  | take yes =>
    simp only [does]
    split
    · exact w
    · rename_i g hg
      refine go _ fun h e => ?_
      split at e
      · cases e
      · rename_i hn
        have hp : g.phase = .choosing := Classical.byContradiction hn
        have := wf_take (w g hg) hp
        split at e
        · cases e; exact this.1
        · cases e; exact this.2
  | lay a b =>
    simp only [does]
    split
    · exact w
    · rename_i g hg
      refine go _ fun h e => ?_
      split at e
      · cases e
      · rename_i hn
        cases e
        have h1 : g.phase = .laying := Classical.byContradiction fun z => hn (.inl z)
        have h2 : natOf a ≠ natOf b := fun z => hn (.inr (.inl z))
        have h3 : natOf a ∈ hand g (g.alone.getD 0) := by
          cases q : (hand g (g.alone.getD 0)).contains (natOf a) with
          | true => simpa using q
          | false => exact absurd (.inr (.inr (.inl q))) hn
        have h4 : natOf b ∈ hand g (g.alone.getD 0) := by
          cases q : (hand g (g.alone.getD 0)).contains (natOf b) with
          | true => simpa using q
          | false => exact absurd (.inr (.inr (.inr q))) hn
        exact wf_lay (w g hg) h1 h3 h4 h2
  | declare k said =>
    simp only [does]
    split
    · exact w
    · rename_i g hg
      refine go _ fun h e => ?_
      split at e
      · cases e
      · rename_i hn
        cases e
        have h1 : g.phase = .declaring := Classical.byContradiction fun z => hn (.inl z)
        have h2 : natOf k ≤ 5 := by
          have : ¬ 5 < natOf k := fun z => hn (.inr (.inl z))
          omega
        exact wf_declare (w g hg) h1 h2
  | play x =>
    show WfS (match s.game with | none => (s, noGame) | some g => goesOn s (play g (natOf x))).1
    split
    · exact w
    · rename_i g hg
      exact go _ fun h e => wf_play (w g hg) e
  | legal => simp only [does]; (repeat' split) <;> exact w
  | hand p => simp only [does]; (repeat' split) <;> exact w
  | state => simp only [does]; (repeat' split) <;> exact w
  | result => simp only [does]; (repeat' split) <;> exact w
  | sure => simp only [does]; (repeat' split) <;> exact w
end Tc

/-! The specification's look ahead: what it is worth, without its order. Plain Lean. -/
namespace Tc
open Rc32

/-! ### the greatest and the least of a list -/
theorem foldl_max_ge : ∀ (l : List Nat) (a : Nat), a ≤ l.foldl max a ∧ ∀ x ∈ l, x ≤ l.foldl max a
  | [], a => ⟨Nat.le_refl _, by simp⟩
  | y :: r, a => by
    obtain ⟨h1, h2⟩ := foldl_max_ge r (max a y)
    refine ⟨Nat.le_trans (Nat.le_max_left _ _) h1, fun x hx => ?_⟩
    rcases List.mem_cons.mp hx with e | e
    · subst e; exact Nat.le_trans (Nat.le_max_right _ _) h1
    · exact h2 x e
theorem foldl_max_mem : ∀ (l : List Nat) (a : Nat), l.foldl max a = a ∨ l.foldl max a ∈ l
  | [], a => .inl rfl
  | y :: r, a => by
    rcases foldl_max_mem r (max a y) with h | h
    · have e : max a y = a ∨ max a y = y := by omega
      rcases e with e | e
      · exact .inl (by rw [List.foldl_cons, h, e])
      · exact .inr (by rw [List.foldl_cons, h, e]; exact List.mem_cons_self ..)
    · exact .inr (List.mem_cons_of_mem _ h)
theorem foldl_min_le : ∀ (l : List Nat) (a : Nat), l.foldl min a ≤ a ∧ ∀ x ∈ l, l.foldl min a ≤ x
  | [], a => ⟨Nat.le_refl _, by simp⟩
  | y :: r, a => by
    obtain ⟨h1, h2⟩ := foldl_min_le r (min a y)
    refine ⟨Nat.le_trans h1 (Nat.min_le_left _ _), fun x hx => ?_⟩
    rcases List.mem_cons.mp hx with e | e
    · subst e; exact Nat.le_trans h1 (Nat.min_le_right _ _)
    · exact h2 x e
theorem foldl_min_mem : ∀ (l : List Nat) (a : Nat), l.foldl min a = a ∨ l.foldl min a ∈ l
  | [], a => .inl rfl
  | y :: r, a => by
    rcases foldl_min_mem r (min a y) with h | h
    · have e : min a y = a ∨ min a y = y := by omega
      rcases e with e | e
      · exact .inl (by rw [List.foldl_cons, h, e])
      · exact .inr (by rw [List.foldl_cons, h, e]; exact List.mem_cons_self ..)
    · exact .inr (List.mem_cons_of_mem _ h)

/-! ### a card played -/
/-- the game behind a card -/
def next (g : Game) (c : Nat) : Game := (play g c).getD g
/-- what may be played -/
def may (g : Game) : List Nat := legal g.game (hand g (turn g)) g.trick
theorem play_next {g : Game} {c : Nat} (hp : g.phase = .playing) (hc : c ∈ may g) : play g c = some (next g c) := by
  have h : ¬ (g.phase ≠ .playing ∨ (legal g.game (hand g (turn g)) g.trick).contains c = false) := by
    intro z
    rcases z with z | z
    · exact z hp
    · have : (legal g.game (hand g (turn g)) g.trick).contains c = true := by simpa [may] using hc
      rw [this] at z; cases z
  have : ∃ k, play g c = some k := by
    unfold play
    simp only
    rw [if_neg h]
    split
    · exact ⟨_, rfl⟩
    · split <;> exact ⟨_, rfl⟩
  obtain ⟨k, e⟩ := this
  unfold next
  rw [e]
  rfl
theorem play_none {g : Game} {c : Nat} (hc : c ∉ may g) : play g c = none := by
  unfold play
  simp only
  rw [if_pos (.inr (by
    cases q : (legal g.game (hand g (turn g)) g.trick).contains c with
    | false => rfl
    | true => exact absurd (by simpa [may] using q) hc))]
theorem wf_next {g : Game} {c : Nat} (w : Wf g) (hp : g.phase = .playing) (hc : c ∈ may g) : Wf (next g c) := wf_play w (play_next hp hc)
theorem legal_ne {game : Nat} {hand trick : List Nat} (h : hand ≠ []) : legal game hand trick ≠ [] := by
  unfold legal
  split
  · exact h
  · simp only
    split
    · exact h
    · rename_i q; simpa using q
theorem Wf.playing {g : Game} (w : Wf g) (hp : g.phase = .playing) : (∃ p, p < 3 ∧ g.alone = some p) ∧ Playing g := by
  have := w.ph
  unfold PhOk at this
  rw [hp] at this
  exact this
theorem turn_lt {g : Game} (hp : g.phase = .playing) : turn g < 3 := by rw [turn_playing hp]; exact Nat.mod_lt _ (by decide)
theorem played1_turn {g : Game} (hp : g.phase = .playing) (pl : Playing g) : played1 g (turn g) = 0 := by
  unfold played1
  rw [turn_playing hp, if_neg]
  have h1 := pl.lead
  have h2 := pl.trick
  have : g.lead = 0 ∨ g.lead = 1 ∨ g.lead = 2 := by omega
  have : g.trick.length = 0 ∨ g.trick.length = 1 ∨ g.trick.length = 2 := by omega
  omega
theorem may_ne {g : Game} (w : Wf g) (hp : g.phase = .playing) : may g ≠ [] := by
  obtain ⟨_, pl⟩ := w.playing hp
  have h := pl.lens (turn g) (turn_lt hp)
  rw [played1_turn hp pl] at h
  have := pl.played
  refine legal_ne fun e => ?_
  rw [e] at h
  simp at h
  omega
theorem may_lt {g : Game} (w : Wf g) {c : Nat} (hc : c ∈ may g) : c < 32 := (w.base.hand _).lt c (legal_mem hc)

/-! ### how many cards are left -/
theorem left_eq {g : Game} (w : Wf g) (hp : g.phase = .playing) : left g + 3 * g.played + g.trick.length = 30 := by
  obtain ⟨_, pl⟩ := w.playing hp
  obtain ⟨x, y, z, e⟩ := three_cases w.base.three
  have h0 := pl.lens 0 (by decide)
  have h1 := pl.lens 1 (by decide)
  have h2 := pl.lens 2 (by decide)
  have el : left g = (hand g 0).length + (hand g 1).length + (hand g 2).length := by
    unfold left hand
    rw [e]
    simp only [List.map_cons, List.map_nil, List.sum_cons, List.sum_nil, List.getD_cons_zero, List.getD_cons_succ]
    omega
  unfold played1 at h0 h1 h2
  have hl := pl.lead
  have ht := pl.trick
  have : g.lead = 0 ∨ g.lead = 1 ∨ g.lead = 2 := by omega
  have : g.trick.length = 0 ∨ g.trick.length = 1 ∨ g.trick.length = 2 := by omega
  rw [el]
  rcases ‹g.lead = 0 ∨ g.lead = 1 ∨ g.lead = 2› with a | a | a <;> rcases ‹g.trick.length = 0 ∨ g.trick.length = 1 ∨ g.trick.length = 2› with b | b | b <;> rw [a, b] at h0 h1 h2 <;> rw [b] <;> simp at h0 h1 h2 <;> omega
/-- the parts of the game behind a card -/
theorem next_cases {g : Game} {c : Nat} (hp : g.phase = .playing) (hc : c ∈ may g) :
    (g.trick.length < 2 ∧ next g c = { g with hands := drop g (turn g) c, trick := g.trick ++ [c] }) ∨
    (¬ g.trick.length < 2 ∧ ∃ (w : Nat) (mine : Bool) (ov : Phase), w = (g.lead + taker g.game (g.trick ++ [c])) % 3 ∧ mine = (g.alone == some w) ∧
      ov = (if g.played + 1 = 10 ∨ (g.game = 5 ∧ mine = true) then .over else .playing) ∧
      next g c = { g with hands := drop g (turn g) c, trick := [], lead := w, played := g.played + 1, points := g.points + (if mine = true then ((g.trick ++ [c]).map points).sum else 0), tricks := g.tricks + mine.toNat, phase := ov }) := by
  have h : ¬ (g.phase ≠ .playing ∨ (legal g.game (hand g (turn g)) g.trick).contains c = false) := by
    intro z
    rcases z with z | z
    · exact z hp
    · have : (legal g.game (hand g (turn g)) g.trick).contains c = true := by simpa [may] using hc
      rw [this] at z; cases z
  have e := play_next hp hc
  unfold play at e
  simp only at e
  rw [if_neg h] at e
  by_cases hl : g.trick.length < 2
  · rw [if_pos (by rw [List.length_append, List.length_singleton]; omega)] at e
    exact .inl ⟨hl, (Option.some.inj e).symm⟩
  · rw [if_neg (by rw [List.length_append, List.length_singleton]; omega)] at e
    refine .inr ⟨hl, _, _, _, rfl, rfl, rfl, ?_⟩
    split at e
    · rename_i hov
      rw [if_pos hov]
      exact (Option.some.inj e).symm
    · rename_i hov
      rw [if_neg hov]
      rw [← Option.some.inj e]
      simp only [hp]
theorem next_phase {g : Game} {c : Nat} (hp : g.phase = .playing) (hc : c ∈ may g) : (next g c).phase = .playing ∨ (next g c).phase = .over := by
  rcases next_cases hp hc with ⟨_, e⟩ | ⟨_, w, m, ov, _, _, ho, e⟩
  · rw [e]; exact .inl hp
  · rw [e, ho]
    show (if _ then Phase.over else Phase.playing) = _ ∨ (if _ then Phase.over else Phase.playing) = _
    split
    · exact .inr rfl
    · exact .inl rfl
theorem left_next {g : Game} {c : Nat} (w : Wf g) (hp : g.phase = .playing) (hc : c ∈ may g) : left (next g c) + 1 = left g := by
  have hh : (next g c).hands = drop g (turn g) c := by
    rcases next_cases hp hc with ⟨_, e⟩ | ⟨_, _, _, _, _, _, _, e⟩ <;> rw [e]
  obtain ⟨x, y, z, e⟩ := three_cases w.base.three
  have hm := legal_mem hc
  have hl := filter_ne_length (w.base.hand (turn g)).nd hm
  have t3 := turn_lt hp
  unfold left
  rw [hh]
  unfold drop
  unfold hand at hl ⊢
  rw [e] at hl ⊢
  generalize turn g = t at *
  match t, t3 with
  | 0, _ => simp only [List.getD_cons_zero, List.set_cons_zero, List.map_cons, List.map_nil, List.sum_cons, List.sum_nil] at *; omega
  | 1, _ => simp only [List.getD_cons_zero, List.getD_cons_succ, List.set_cons_succ, List.set_cons_zero, List.map_cons, List.map_nil, List.sum_cons, List.sum_nil] at *; omega
  | 2, _ => simp only [List.getD_cons_zero, List.getD_cons_succ, List.set_cons_succ, List.set_cons_zero, List.map_cons, List.map_nil, List.sum_cons, List.sum_nil] at *; omega

/-! ### the look ahead -/
/-- at the end -/
def worth (g : Game) : Nat := if g.game = 5 then (if g.tricks = 0 then 1 else 0) else g.points
theorem sure_zero (g : Game) : sure 0 g = worth g := rfl
theorem sure_end {f : Nat} {g : Game} (h : g.phase ≠ .playing) : sure f g = worth g := by
  cases f with
  | zero => rfl
  | succ f =>
    show (if g.phase ≠ .playing then _ else _) = _
    rw [if_pos h]
    rfl
theorem sure_succ {f : Nat} {g : Game} (h : g.phase = .playing) : sure (f + 1) g = if g.alone = some (turn g) then ((may g).map fun c => sure f (next g c)).foldl max 0 else ((may g).map fun c => sure f (next g c)).foldl min 1000 := by
  show (if g.phase ≠ .playing then _ else _) = _
  rw [if_neg (fun z => z h)]
  have e : ∀ F : Nat → Nat, (∀ c, c ∈ may g → F c = sure f (next g c)) → (legal g.game (hand g (turn g)) g.trick).map F = (may g).map fun c => sure f (next g c) :=
    fun F hF => List.map_congr_left fun c hc => hF c hc
  dsimp only
  rw [e _ fun c hc => by rw [play_next h hc]]
theorem Wf.points_le {g : Game} (w : Wf g) (hp : g.phase = .playing ∨ g.phase = .over) : g.points ≤ 352 := by
  rcases hp with hp | hp
  · obtain ⟨_, pl⟩ := w.playing hp
    have h1 := pl.points
    have h2 := pl.played
    omega
  · have := w.ph
    unfold PhOk at this
    rw [hp] at this
    rcases this with ⟨_, f⟩ | ⟨_, _, _, h, _⟩
    · rw [f.points]; omega
    · exact h
theorem worth_le {g : Game} (w : Wf g) (hp : g.phase = .playing ∨ g.phase = .over) : worth g ≤ 352 := by
  unfold worth
  split
  · split <;> omega
  · exact w.points_le hp
theorem sure_le : ∀ (f : Nat) {g : Game}, Wf g → (g.phase = .playing ∨ g.phase = .over) → sure f g ≤ 352
  | 0, g, w, hp => worth_le w hp
  | f + 1, g, w, hp => by
    by_cases h : g.phase = .playing
    · have all : ∀ v ∈ (may g).map (fun c => sure f (next g c)), v ≤ 352 := fun v hv => by
        obtain ⟨c, hc, rfl⟩ := List.mem_map.mp hv
        exact sure_le f (wf_next w h hc) (next_phase h hc)
      rw [sure_succ h]
      split
      · rcases foldl_max_mem ((may g).map fun c => sure f (next g c)) 0 with e | e
        · rw [e]; omega
        · exact all _ e
      · obtain ⟨c, hc⟩ := List.exists_mem_of_ne_nil _ (may_ne w h)
        have hv := List.mem_map_of_mem (f := fun c => sure f (next g c)) hc
        exact Nat.le_trans ((foldl_min_le ((may g).map fun c => sure f (next g c)) 1000).2 _ hv) (all _ hv)
    · rw [sure_end h]; exact worth_le w hp
/-- THE ONE WHO PLAYS ALONE: some card gives it, none gives more -/
theorem sure_max {f : Nat} {g : Game} (w : Wf g) (hp : g.phase = .playing) (ha : g.alone = some (turn g)) :
    (∃ c, c ∈ may g ∧ sure (f + 1) g = sure f (next g c)) ∧ ∀ c, c ∈ may g → sure f (next g c) ≤ sure (f + 1) g := by
  rw [sure_succ hp, if_pos ha]
  refine ⟨?_, fun c hc => (foldl_max_ge _ 0).2 _ (List.mem_map_of_mem (f := fun c => sure f (next g c)) hc)⟩
  rcases foldl_max_mem ((may g).map fun c => sure f (next g c)) 0 with e | e
  · obtain ⟨c, hc⟩ := List.exists_mem_of_ne_nil _ (may_ne w hp)
    refine ⟨c, hc, ?_⟩
    have := (foldl_max_ge ((may g).map fun c => sure f (next g c)) 0).2 _ (List.mem_map_of_mem (f := fun c => sure f (next g c)) hc)
    rw [e] at this ⊢
    omega
  · obtain ⟨c, hc, e2⟩ := List.mem_map.mp e
    exact ⟨c, hc, e2.symm⟩
/-- THE OTHERS: some card gives it, none gives less -/
theorem sure_min {f : Nat} {g : Game} (w : Wf g) (hp : g.phase = .playing) (ha : g.alone ≠ some (turn g)) :
    (∃ c, c ∈ may g ∧ sure (f + 1) g = sure f (next g c)) ∧ ∀ c, c ∈ may g → sure (f + 1) g ≤ sure f (next g c) := by
  rw [sure_succ hp, if_neg ha]
  refine ⟨?_, fun c hc => (foldl_min_le _ 1000).2 _ (List.mem_map_of_mem (f := fun c => sure f (next g c)) hc)⟩
  rcases foldl_min_mem ((may g).map fun c => sure f (next g c)) 1000 with e | e
  · obtain ⟨c, hc⟩ := List.exists_mem_of_ne_nil _ (may_ne w hp)
    have h1 := (foldl_min_le ((may g).map fun c => sure f (next g c)) 1000).2 _ (List.mem_map_of_mem (f := fun c => sure f (next g c)) hc)
    have h2 := sure_le f (wf_next w hp hc) (next_phase hp hc)
    rw [e] at h1
    omega
  · obtain ⟨c, hc, e2⟩ := List.mem_map.mp e
    exact ⟨c, hc, e2.symm⟩

/-! ### two games alike -/
/-- alike: but for the order of the hands, for the points, and what is settled by then -/
structure Alike (g k : Game) : Prop where
  game : k.game = g.game
  alone : k.alone = g.alone
  phase : k.phase = g.phase
  trick : k.trick = g.trick
  lead : k.lead = g.lead
  played : k.played = g.played
  null : g.game = 5 → k.tricks = g.tricks
  hands : ∀ p c, c ∈ hand k p ↔ c ∈ hand g p
theorem Alike.turn {g k : Game} (a : Alike g k) : turn k = turn g := by
  unfold Rc32.turn
  rw [a.phase, a.alone, a.lead, a.trick]
theorem filter_empty_iff {p : Nat → Bool} {a b : List Nat} (h : ∀ c, c ∈ a ↔ c ∈ b) : (a.filter p).isEmpty = (b.filter p).isEmpty := by
  have : a.filter p = [] ↔ b.filter p = [] := by
    rw [List.filter_eq_nil_iff, List.filter_eq_nil_iff]
    exact ⟨fun z c hc => z c ((h c).mpr hc), fun z c hc => z c ((h c).mp hc)⟩
  cases q : (b.filter p).isEmpty with
  | true =>
    rw [List.isEmpty_iff] at q ⊢
    exact this.mpr q
  | false =>
    rw [List.isEmpty_eq_false_iff] at q ⊢
    exact fun z => q (this.mp z)
theorem legal_iff {game : Nat} {a b trick : List Nat} (h : ∀ c, c ∈ a ↔ c ∈ b) (c : Nat) : c ∈ legal game a trick ↔ c ∈ legal game b trick := by
  unfold legal
  split
  · exact h c
  · rename_i t r
    simp only
    rw [filter_empty_iff (p := fun c => kind game c == kind game t) h]
    split
    · exact h c
    · rw [List.mem_filter, List.mem_filter, h c]
theorem Alike.may {g k : Game} (a : Alike g k) (c : Nat) : c ∈ may k ↔ c ∈ may g := by
  unfold Tc.may
  rw [a.turn, a.game, a.trick]
  exact legal_iff (a.hands _) c
theorem hand_drop {g k : Game} {t c : Nat} (h3 : g.hands.length = 3) (ht : t < 3) (e : k.hands = drop g t c) (p d : Nat) : d ∈ hand k p ↔ d ∈ hand g p ∧ ¬ (p = t ∧ d = c) := by
  rw [hand_set (g := g) (g' := k) (p := t) (q := p) e h3 ht]
  by_cases hp : p = t
  · subst hp
    rw [if_pos rfl, List.mem_filter]
    simp
  · rw [if_neg hp]
    simp [hp]
theorem Alike.next {g k : Game} (a : Alike g k) (wg : Wf g) (wk : Wf k) (hp : g.phase = .playing) {c : Nat} (hc : c ∈ Tc.may g) :
    Alike (next g c) (next k c) ∧ (next g c).points + k.points = (next k c).points + g.points := by
  have hpk : k.phase = .playing := a.phase.trans hp
  have hck := (a.may c).mpr hc
  have hands : ∀ {g' k' : Game}, g'.hands = drop g (Rc32.turn g) c → k'.hands = drop k (Rc32.turn k) c → ∀ p d, d ∈ hand k' p ↔ d ∈ hand g' p := fun e1 e2 p d => by
    rw [hand_drop wk.base.three (turn_lt hpk) e2, hand_drop wg.base.three (turn_lt hp) e1, a.hands, a.turn]
  rcases next_cases hp hc with ⟨l1, e1⟩ | ⟨l1, w1, m1, o1, ew1, em1, eo1, e1⟩
  · rcases next_cases hpk hck with ⟨l2, e2⟩ | ⟨l2, _⟩
    · refine ⟨⟨?_, ?_, ?_, ?_, ?_, ?_, ?_, hands (by rw [e1]) (by rw [e2])⟩, ?_⟩
      · rw [e1, e2]; exact a.game
      · rw [e1, e2]; exact a.alone
      · rw [e1, e2]; exact a.phase
      · rw [e1, e2]; show k.trick ++ [c] = g.trick ++ [c]; rw [a.trick]
      · rw [e1, e2]; exact a.lead
      · rw [e1, e2]; exact a.played
      · rw [e1, e2]; exact a.null
      · rw [e1, e2]; exact Nat.add_comm _ _
    · rw [a.trick] at l2; exact absurd l1 l2
  · rcases next_cases hpk hck with ⟨l2, _⟩ | ⟨l2, w2, m2, o2, ew2, em2, eo2, e2⟩
    · rw [a.trick] at l2; exact absurd l2 l1
    · rw [a.lead, a.game, a.trick] at ew2
      have ew : w2 = w1 := ew2.trans ew1.symm
      subst ew
      rw [a.alone] at em2
      have em : m2 = m1 := em2.trans em1.symm
      subst em
      rw [a.played, a.game] at eo2
      have eo : o2 = o1 := eo2.trans eo1.symm
      subst eo
      refine ⟨⟨?_, ?_, ?_, ?_, ?_, ?_, ?_, hands (by rw [e1]) (by rw [e2])⟩, ?_⟩
      · rw [e1, e2]; exact a.game
      · rw [e1, e2]; exact a.alone
      · rw [e1, e2]
      · rw [e1, e2]
      · rw [e1, e2]
      · rw [e1, e2]; show k.played + 1 = g.played + 1; rw [a.played]
      · rw [e1, e2]
        intro h5
        show k.tricks + _ = g.tricks + _
        rw [a.null h5]
      · rw [e1, e2]
        show g.points + _ + k.points = k.points + _ + g.points
        rw [a.trick]
        omega
/-- ALIKE GAMES come to the same, but for the points that they have -/
theorem alike_sure : ∀ (f : Nat) {g k : Game}, Wf g → Wf k → Alike g k → (g.phase = .playing ∨ g.phase = .over) →
    (g.game = 5 → sure f k = sure f g) ∧ (g.game ≠ 5 → sure f g + k.points = sure f k + g.points)
  | 0, g, k, wg, wk, a, hp => by
    rw [sure_zero, sure_zero]
    unfold worth
    rw [a.game]
    refine ⟨fun h5 => ?_, fun h5 => ?_⟩
    · rw [if_pos h5, if_pos h5, a.null h5]
    · rw [if_neg h5, if_neg h5]; exact Nat.add_comm _ _
  | f + 1, g, k, wg, wk, a, hp => by
    by_cases h : g.phase = .playing
    · have hk : k.phase = .playing := a.phase.trans h
      have step : ∀ c, c ∈ may g → (g.game = 5 → sure f (next k c) = sure f (next g c)) ∧ (g.game ≠ 5 → sure f (next g c) + k.points = sure f (next k c) + g.points) := fun c hc => by
        obtain ⟨a', e⟩ := a.next wg wk h hc
        have hg : (next g c).game = g.game := by
          rcases next_cases h hc with ⟨_, e⟩ | ⟨_, _, _, _, _, _, _, e⟩ <;> rw [e]
        have ih := alike_sure f (wf_next wg h hc) (wf_next wk hk ((a.may c).mpr hc)) a' (next_phase h hc)
        rw [hg] at ih
        refine ⟨ih.1, fun h5 => ?_⟩
        have := ih.2 h5
        omega
      by_cases ha : g.alone = some (turn g)
      · have ha' : k.alone = some (turn k) := by rw [a.alone, a.turn]; exact ha
        obtain ⟨⟨c, hc, e⟩, le⟩ := sure_max (f := f) wg h ha
        obtain ⟨⟨c', hc', e'⟩, le'⟩ := sure_max (f := f) wk hk ha'
        have b1 := le c' ((a.may c').mp hc')
        have b2 := le' c ((a.may c).mpr hc)
        have s1 := step c hc
        have s2 := step c' ((a.may c').mp hc')
        refine ⟨fun h5 => ?_, fun h5 => ?_⟩
        · have := s1.1 h5; have := s2.1 h5; omega
        · have := s1.2 h5; have := s2.2 h5; omega
      · have ha' : k.alone ≠ some (turn k) := by rw [a.alone, a.turn]; exact ha
        obtain ⟨⟨c, hc, e⟩, le⟩ := sure_min (f := f) wg h ha
        obtain ⟨⟨c', hc', e'⟩, le'⟩ := sure_min (f := f) wk hk ha'
        have b1 := le c' ((a.may c').mp hc')
        have b2 := le' c ((a.may c).mpr hc)
        have s1 := step c hc
        have s2 := step c' ((a.may c').mp hc')
        refine ⟨fun h5 => ?_, fun h5 => ?_⟩
        · have := s1.1 h5; have := s2.1 h5; omega
        · have := s1.2 h5; have := s2.2 h5; omega
    · have hk : k.phase ≠ .playing := fun z => h (a.phase.symm.trans z)
      rw [sure_end h, sure_end hk]
      unfold worth
      rw [a.game]
      refine ⟨fun h5 => ?_, fun h5 => ?_⟩
      · rw [if_pos h5, if_pos h5, a.null h5]
      · rw [if_neg h5, if_neg h5]; exact Nat.add_comm _ _
end Tc

/-! Cards of a mask, their points; which cards are where while a game is played. Plain Lean. -/
namespace Tc
open Rc32

/-- the cards of a mask, from the highest down -/
def mCards (m : Nat) : List Nat := ((List.range 32).filter fun c => m.testBit c).reverse
def mPts (m : Nat) : Nat := ((mCards m).map points).sum
theorem mCards_mem {m c : Nat} : c ∈ mCards m ↔ c < 32 ∧ m.testBit c = true := by
  unfold mCards
  rw [List.mem_reverse, List.mem_filter, List.mem_range]
theorem mCards_nodup (m : Nat) : (mCards m).Nodup := by
  unfold mCards
  exact (List.reverse_perm _).nodup_iff.mpr (List.nodup_range.sublist List.filter_sublist)
theorem Hand.cards {l : List Nat} (h : Hand l) : (mCards (maskOf l)).Perm l := by
  refine (List.perm_ext_iff_of_nodup (mCards_nodup _) h.nd).mpr fun c => ?_
  rw [mCards_mem, h.mem_iff]
  exact ⟨fun z => z.2, fun z => ⟨h.lt c z, z⟩⟩
theorem mCards_len_le (m : Nat) : (mCards m).length ≤ 32 := by
  unfold mCards
  rw [List.length_reverse]
  exact Nat.le_trans (List.length_filter_le _ _) (by rw [List.length_range]; exact Nat.le_refl _)
theorem sum_perm {a b : List Nat} (h : a.Perm b) : a.sum = b.sum := by
  induction h with
  | nil => rfl
  | cons x _ ih => rw [List.sum_cons, List.sum_cons, ih]
  | swap x y l => simp only [List.sum_cons]; omega
  | trans _ _ h1 h2 => exact h1.trans h2
theorem mPts_hand {l : List Nat} (h : Hand l) : mPts (maskOf l) = (l.map points).sum := sum_perm (h.cards.map points)
theorem mPts_or {m : Nat} {l : List Nat} (h : Hand l) (hd : ∀ c ∈ l, m.testBit c = false) : mPts (m ||| maskOf l) = mPts m + (l.map points).sum := by
  have p : (mCards (m ||| maskOf l)).Perm (mCards m ++ l) := by
    refine (List.perm_ext_iff_of_nodup (mCards_nodup _) ?_).mpr fun c => ?_
    · refine List.nodup_append.mpr ⟨mCards_nodup m, h.nd, fun a ha b hb e => ?_⟩
      subst e
      have := (mCards_mem.mp ha).2
      rw [hd a hb] at this
      cases this
    · rw [mCards_mem, List.mem_append, mCards_mem, Nat.testBit_or, Bool.or_eq_true, h.mem_iff]
      exact ⟨fun z => z.2.elim (fun y => .inl ⟨z.1, y⟩) .inr, fun z => z.elim (fun y => ⟨y.1, .inl y.2⟩) fun y => ⟨h.lt c y, .inr y⟩⟩
  unfold mPts
  rw [sum_perm (p.map points), List.map_append, List.sum_append]
theorem sum_sub {a b : List Nat} (h : a.Sublist b) : (a.map points).sum ≤ (b.map points).sum := by
  induction h with
  | slnil => exact Nat.le_refl _
  | cons x _ ih => rw [List.map_cons, List.sum_cons]; omega
  | cons_cons x _ ih => rw [List.map_cons, List.map_cons, List.sum_cons, List.sum_cons]; omega
theorem mPts_eq (m : Nat) : mPts m = (((List.range 32).filter fun c => m.testBit c).map points).sum := sum_perm ((List.reverse_perm _).map points)
theorem mPts_le (m : Nat) : mPts m ≤ 120 := by
  rw [mPts_eq]
  exact Nat.le_trans (sum_sub List.filter_sublist) (by decide +kernel)
theorem mPts_all {m : Nat} (h : ∀ c, c < 32 → m.testBit c = true) : mPts m = 120 := by
  rw [mPts_eq, List.filter_eq_self.mpr fun c hc => h c (List.mem_range.mp hc)]
  decide +kernel

/-! ### which cards are where -/
theorem perm_filter_ne {l : List Nat} {c : Nat} (nd : l.Nodup) (h : c ∈ l) : (c :: l.filter fun d => d != c).Perm l := by
  refine (List.perm_ext_iff_of_nodup ?_ nd).mpr fun d => ?_
  · refine List.nodup_cons.mpr ⟨fun z => ?_, nd.sublist List.filter_sublist⟩
    have := (List.mem_filter.mp z).2
    simp at this
  · rw [List.mem_cons, List.mem_filter]
    by_cases e : d = c
    · subst e; simp [h]
    · simp [e]
theorem perm_drop {g : Game} {t c : Nat} (h3 : g.hands.length = 3) (ht : t < 3) (nd : g.hands.flatten.Nodup) (h : c ∈ hand g t) : ((drop g t c).flatten ++ [c]).Perm g.hands.flatten := by
  obtain ⟨x, y, z, e⟩ := three_cases h3
  have n1 : (hand g t).Nodup := nd.sublist hand_sublist
  have pf := perm_filter_ne n1 h
  unfold drop
  unfold hand at h pf ⊢
  rw [e] at h pf ⊢
  have hc : ∀ a b d : List Nat, ((d.filter fun k => k != c) :: []).flatten = d.filter fun k => k != c := fun _ _ d => by simp
  match t, ht with
  | 0, _ =>
    show ([x.filter fun d => d != c, y, z].flatten ++ [c]).Perm [x, y, z].flatten
    have pf : (c :: x.filter fun d => d != c).Perm x := pf
    simp only [List.flatten_cons, List.flatten_nil, List.append_nil]
    refine (List.perm_append_comm (l₂ := [c])).trans ?_
    exact pf.append_right (y ++ z)
  | 1, _ =>
    show ([x, y.filter fun d => d != c, z].flatten ++ [c]).Perm [x, y, z].flatten
    have pf : (c :: y.filter fun d => d != c).Perm y := pf
    simp only [List.flatten_cons, List.flatten_nil, List.append_nil, List.append_assoc]
    refine List.Perm.append_left x ?_
    rw [← List.append_assoc]
    exact (List.perm_append_comm (l₂ := [c])).trans (pf.append_right z)
  | 2, _ =>
    show ([x, y, z.filter fun d => d != c].flatten ++ [c]).Perm [x, y, z].flatten
    have pf : (c :: z.filter fun d => d != c).Perm z := pf
    simp only [List.flatten_cons, List.flatten_nil, List.append_nil, List.append_assoc]
    refine List.Perm.append_left x (List.Perm.append_left y ?_)
    exact (List.perm_append_comm (l₂ := [c])).trans pf
/-- S: the cards of the one who plays alone, taken or laid away -/
structure Fit (g : Game) (S : Nat) : Prop where
  nd : (g.hands.flatten ++ g.trick).Nodup
  lt : ∀ c ∈ g.hands.flatten ++ g.trick, c < 32
  out : ∀ c ∈ g.hands.flatten ++ g.trick, S.testBit c = false
  pts : g.points = mPts S
  all : g.tricks = g.played → ∀ c, c < 32 → c ∈ g.hands.flatten ++ g.trick ∨ S.testBit c = true
theorem perm_play {g : Game} {c : Nat} (w : Wf g) (hp : g.phase = .playing) (hc : c ∈ may g) : ((drop g (turn g) c).flatten ++ (g.trick ++ [c])).Perm (g.hands.flatten ++ g.trick) := by
  have nd0 : g.hands.flatten.Nodup := (List.nodup_append.mp w.base.nd).1
  have p := perm_drop w.base.three (turn_lt hp) nd0 (legal_mem hc)
  have p2 := p.append_right g.trick
  refine List.Perm.trans ?_ p2
  rw [List.append_assoc]
  exact List.Perm.append_left _ List.perm_append_comm
theorem fit_next {g : Game} {S c : Nat} (w : Wf g) (hp : g.phase = .playing) (hc : c ∈ may g) (F : Fit g S) :
    (g.trick.length < 2 → Fit (next g c) S) ∧ (¬ g.trick.length < 2 → ∀ k, k = (g.lead + taker g.game (g.trick ++ [c])) % 3 → Hand (g.trick ++ [c]) ∧ Fit (next g c) (if (g.alone == some k) = true then S ||| maskOf (g.trick ++ [c]) else S)) := by
  have P := perm_play w hp hc
  obtain ⟨_, pl⟩ := w.playing hp
  rcases next_cases hp hc with ⟨l1, e⟩ | ⟨l1, k, mine, ov, ek, em, eo, e⟩
  · refine ⟨fun _ => ?_, fun z => absurd l1 z⟩
    have hm : ∀ x, x ∈ (next g c).hands.flatten ++ (next g c).trick ↔ x ∈ g.hands.flatten ++ g.trick := fun x => by rw [e]; exact P.mem_iff
    refine ⟨?_, fun x hx => F.lt x ((hm x).mp hx), fun x hx => F.out x ((hm x).mp hx), ?_, fun ht x hx => ?_⟩
    · rw [e]; exact P.nodup_iff.mpr F.nd
    · rw [e]; exact F.pts
    · rw [hm]
      exact F.all (by rw [e] at ht; exact ht) x hx
  · refine ⟨fun z => absurd z l1, fun _ k' ek' => ?_⟩
    obtain rfl : k' = k := ek'.trans ek.symm
    have nd1 := P.nodup_iff.mpr F.nd
    obtain ⟨n1, n2, n3⟩ := List.nodup_append.mp nd1
    have hT : Hand (g.trick ++ [c]) := ⟨fun x hx => F.lt x (P.mem_iff.mp (List.mem_append_right _ hx)), n2⟩
    refine ⟨hT, ?_⟩
    rw [← em]
    have hf : (next g c).hands.flatten ++ (next g c).trick = (drop g (turn g) c).flatten := by rw [e]; simp
    refine ⟨?_, ?_, ?_, ?_, ?_⟩
    · rw [hf]; exact n1
    · rw [hf]; exact fun x hx => F.lt x (P.mem_iff.mp (List.mem_append_left _ hx))
    · rw [hf]
      intro x hx
      have h0 := F.out x (P.mem_iff.mp (List.mem_append_left _ hx))
      split
      · rw [Nat.testBit_or, h0, Bool.false_or]
        cases q : (maskOf (g.trick ++ [c])).testBit x with
        | false => rfl
        | true => exact absurd rfl (n3 x hx x ((hT.mem_iff x).mp q))
      · exact h0
    · rw [e]
      show g.points + _ = _
      split
      · rw [mPts_or hT fun x hx => F.out x (P.mem_iff.mp (List.mem_append_right _ hx)), F.pts]
      · rw [Nat.add_zero, F.pts]
    · intro ht x hx
      rw [hf]
      have ht' : g.tricks + mine.toNat = g.played + 1 := by rw [e] at ht; exact ht
      have hle := pl.tricks
      cases mine with
      | false => simp at ht'; omega
      | true =>
        rw [if_pos rfl, Nat.testBit_or]
        have ht2 : g.tricks = g.played := by simp at ht'; exact ht'
        rcases F.all ht2 x hx with z | z
        · rcases List.mem_append.mp (P.mem_iff.mpr z) with y | y
          · exact .inl y
          · exact .inr (by rw [(hT.mem_iff x).mpr y, Bool.or_true])
        · exact .inr (by rw [z, Bool.true_or])
/-- what the one who plays alone will have is at most 120 -/
theorem sure_120 : ∀ (f : Nat) {g : Game} {S : Nat}, Wf g → (g.phase = .playing ∨ g.phase = .over) → Fit g S → g.game ≠ 5 → sure f g ≤ 120
  | 0, g, S, _, _, F, h5 => by
    rw [sure_zero]
    unfold worth
    rw [if_neg h5, F.pts]
    exact mPts_le _
  | f + 1, g, S, w, hp, F, h5 => by
    by_cases h : g.phase = .playing
    · have all : ∀ c ∈ may g, sure f (next g c) ≤ 120 := fun c hc => by
        have hg : (next g c).game ≠ 5 := by
          rcases next_cases h hc with ⟨_, e⟩ | ⟨_, _, _, _, _, _, _, e⟩ <;> rw [e] <;> exact h5
        obtain ⟨f1, f2⟩ := fit_next w h hc F
        by_cases hl : g.trick.length < 2
        · exact sure_120 f (wf_next w h hc) (next_phase h hc) (f1 hl) hg
        · exact sure_120 f (wf_next w h hc) (next_phase h hc) (f2 hl _ rfl).2 hg
      by_cases ha : g.alone = some (turn g)
      · obtain ⟨⟨c, hc, e⟩, _⟩ := sure_max (f := f) w h ha
        rw [e]; exact all c hc
      · obtain ⟨⟨c, hc, e⟩, _⟩ := sure_min (f := f) w h ha
        rw [e]; exact all c hc
    · rw [sure_end h]
      unfold worth
      rw [if_neg h5, F.pts]
      exact mPts_le _
/-- the cards when it is declared -/
theorem fit_start {g : Game} (b : Base g) (t : Ten g) (t2 : g.two.length = 2) (tr : g.trick = []) {k : Game} (e1 : k.hands = g.hands) (e2 : k.trick = g.trick) (e4 : k.points = (g.two.map points).sum) : Fit k (maskOf g.two) := by
  have nd := b.nd
  obtain ⟨n1, n2, n3⟩ := List.nodup_append.mp nd
  have hk : k.hands.flatten ++ k.trick = g.hands.flatten := by rw [e1, e2, tr, List.append_nil]
  have h2 := b.two
  refine ⟨by rw [hk]; exact n1, by rw [hk]; exact fun c hc => b.lt c (List.mem_append_left _ hc), ?_, by rw [e4, mPts_hand h2], fun _ c hc => ?_⟩
  · rw [hk]
    intro c hc
    cases q : (maskOf g.two).testBit c with
    | false => rfl
    | true => exact absurd rfl (n3 c hc c ((h2.mem_iff c).mp q))
  · rw [hk]
    have len : (g.hands.flatten ++ g.two).length = 32 := by
      obtain ⟨x, y, z, e⟩ := three_cases b.three
      have h0 := t 0 (by decide)
      have h1 := t 1 (by decide)
      have h3 := t 2 (by decide)
      unfold hand at h0 h1 h3
      rw [e] at h0 h1 h3 ⊢
      simp only [List.getD_cons_zero, List.getD_cons_succ] at h0 h1 h3
      simp only [List.flatten_cons, List.flatten_nil, List.append_nil, List.length_append]
      omega
    have p : (g.hands.flatten ++ g.two).Perm (List.range 32) := perm_of_sub nd (fun x hx => List.mem_range.mpr (b.lt x hx)) (by rw [len, List.length_range]; exact Nat.le_refl _)
    rcases List.mem_append.mp (p.mem_iff.mpr (List.mem_range.mpr hc)) with z | z
    · exact .inl z
    · exact .inr ((h2.mem_iff c).mpr z)
end Tc

/-! The program's game as plain numbers, its defs as plain functions, against the specification. Plain Lean.
MIRROR of the program at 4b5e6cc (begin, deal, speak, take, lay, declare). -/
namespace Tc
open Rc32

/-- the attributes of Game -/
structure PG where
  hands : List Nat
  away : Nat
  phase : Int
  bidder : Int
  hearer : Int
  bid : Int
  alone : Int
  had : Nat
  fromHand : Bool
  declared : Option Int
  said : Int
  leader : Int
  trick : List Int
  taken : Nat
  tricks : Int
def pvalues : List Int := [18, 20, 22, 23, 24, 27, 30, 33, 35, 36, 40, 44, 45, 46, 48, 50, 54, 55, 59, 60, 63, 66, 70, 72, 77, 80, 81, 84, 88, 90, 96, 99, 100, 108, 110, 117, 120, 121, 126, 130, 132, 135, 140, 143, 144, 150, 153, 154, 156, 160, 162, 165, 168, 170, 176, 180, 187, 192, 198, 204, 216, 240, 264]
/-! ### bidding -/
def mPlayAlone (p : PG) (who : Int) : PG × Int := ({ p with alone := who, had := p.hands.getD who.toNat 0 ||| p.away, phase := 3 }, 3)
def mGoOn (p : PG) (left : Int) : PG × Int :=
  if p.bidder ≠ 2 then ({ p with bidder := 2, hearer := left, phase := 0 }, 0)
  else if p.bid = 0 then ({ p with phase := 2 }, 2) else mPlayAlone p left
def mSayValue (p : PG) (x : Int) : PG × Int :=
  if x = 0 then mGoOn p p.hearer
  else if x ∉ pvalues ∨ x ≤ p.bid then (p, -1)
  else ({ p with bid := x, phase := 1 }, 1)
def mReply (p : PG) (x : Int) : PG × Int :=
  if x = 0 then mGoOn p p.bidder
  else if x ≠ 1 then (p, -1)
  else ({ p with phase := 0 }, 0)
def mLastWord (p : PG) (x : Int) : PG × Int :=
  if x = 0 then ({ p with phase := 7 }, 7)
  else if x ≠ 18 then (p, -1)
  else mPlayAlone { p with bid := 18 } 0
def mSpeak (p : PG) (x : Int) : PG × Int :=
  if p.phase = 0 then mSayValue p x else if p.phase = 1 then mReply p x else if p.phase = 2 then mLastWord p x else (p, -1)
/-! ### the two cards, the declaration -/
/-- bits >> card & 1 == 1, and the card not below 0 -/
def mHolds (bits : Nat) (card : Int) : Bool := decide (0 ≤ card) && bits.testBit card.toNat
def mTake (p : PG) (yes : Int) : PG × Int :=
  if p.phase ≠ 3 then (p, -1)
  else if yes = 0 then ({ p with fromHand := true, phase := 5 }, 5)
  else ({ p with hands := p.hands.set p.alone.toNat (p.hands.getD p.alone.toNat 0 ||| p.away), away := 0, phase := 4 }, 4)
def mLay (p : PG) (a b : Int) : PG × Int :=
  if p.phase ≠ 4 then (p, -1)
  else
    if a = b ∨ mHolds (p.hands.getD p.alone.toNat 0) a = false ∨ mHolds (p.hands.getD p.alone.toNat 0) b = false then (p, -1)
    else ({ p with away := 2 ^ a.toNat ||| 2 ^ b.toNat, hands := p.hands.set p.alone.toNat (p.hands.getD p.alone.toNat 0 ^^^ (2 ^ a.toNat ||| 2 ^ b.toNat)), phase := 5 }, 5)
def mSayable (declared : Int) (fromHand : Bool) : List Int := if declared = 5 then [0, 4] else if fromHand = true then [0, 1, 3, 7] else [0]
def mDeclare (p : PG) (declared said : Int) : PG × Int :=
  if p.phase ≠ 5 then (p, -1)
  else if declared ∉ ([0, 1, 2, 3, 4, 5] : List Int) ∨ said ∉ mSayable declared p.fromHand then (p, -1)
  else ({ p with declared := some declared, said := said, phase := 6 }, 6)
/-! ### how the program's game stands for the specification's -/
/-- while it is played -/
structure Mid (g : Game) (p : PG) : Prop where
  fit : Fit g (p.taken ||| p.away)
  said : sayable g.byHand g.game g.said = true
  taken : p.taken < 2 ^ 32
/-- behind it -/
structure End (g : Game) (p : PG) : Prop where
  declared : p.declared = some (g.game : Int) ∧ p.said = (g.said : Int)
  said : sayable g.byHand g.game g.said = true
  pts : g.points = mPts (p.taken ||| p.away)
  all : g.tricks = 10 → g.points = 120
  taken : p.taken < 2 ^ 32
structure RelX (g : Game) (p : PG) : Prop where
  lead : p.leader = (g.lead : Int)
  trick : p.trick = g.trick.map fun (c : Nat) => (c : Int)
  tricks : p.tricks = (g.tricks : Int)
  had1 : g.phase = .choosing → p.had = maskOf (hand g (g.alone.getD 0) ++ g.two)
  had2 : g.alone.isSome = true → g.phase ≠ .choosing → p.had = maskOf g.own
  before : g.phase ≠ .playing → (g.phase = .over → g.alone = none) → p.declared = none ∧ p.taken = 0
  mid : g.phase = .playing → Mid g p
  over : g.phase = .over → g.alone ≠ none → End g p
/-- ahead of the play nothing of it changes -/
theorem RelX.stay {g h : Game} {p q : PG} (R : RelX g p) (hp : g.phase ≠ .playing) (ho : g.phase = .over → g.alone = none) (hp' : h.phase ≠ .playing) (ho' : h.phase = .over → h.alone = none)
    (had1 : h.phase = .choosing → q.had = maskOf (hand h (h.alone.getD 0) ++ h.two)) (had2 : h.alone.isSome = true → h.phase ≠ .choosing → q.had = maskOf h.own)
    (e1 : h.lead = g.lead := by rfl) (e2 : h.trick = g.trick := by rfl) (e3 : h.tricks = g.tricks := by rfl) (d1 : q.leader = p.leader := by rfl) (d2 : q.trick = p.trick := by rfl) (d3 : q.tricks = p.tricks := by rfl)
    (d4 : q.declared = p.declared := by rfl) (d5 : q.taken = p.taken := by rfl) : RelX h q :=
  ⟨by rw [d1, e1]; exact R.lead, by rw [d2, e2]; exact R.trick, by rw [d3, e3]; exact R.tricks, had1, had2, fun _ _ => by rw [d4, d5]; exact R.before hp ho, fun z => absurd z hp', fun z y => absurd (ho' z) y⟩
structure Rel (g : Game) (p : PG) : Prop where
  hands : p.hands = [maskOf (hand g 0), maskOf (hand g 1), maskOf (hand g 2)]
  away : p.away = maskOf g.two
  phase : p.phase = (phaseNumber g.phase : Int)
  bid : p.bid = (g.bid : Int)
  alone : p.alone = ((g.alone.getD 3 : Nat) : Int)
  bl : ∀ b l a, g.phase = .bidding b l a → p.bidder = (b : Int) ∧ p.hearer = (l : Int)
  fromHand : g.alone.isSome = true → g.phase ≠ .choosing → p.fromHand = g.byHand
  early : (g.alone = none ∨ g.phase = .choosing) → p.fromHand = false
  declared : g.phase = .playing → p.declared = some (g.game : Int) ∧ p.said = (g.said : Int)
  x : RelX g p
/-- what a call does: the answer, and the game behind it -/
def Goes (_ : Game) (p : PG) (o : Option Game) (r : PG × Int) : Prop := match o with
  | none => r = (p, -1)
  | some h => Rel h r.1 ∧ r.2 = (phaseNumber h.phase : Int)
/-- the hand of the one who plays alone -/
theorem Rel.get {g : Game} {p : PG} (R : Rel g p) {q : Nat} (hq : q < 3) : p.hands.getD q 0 = maskOf (hand g q) := by
  rw [R.hands]
  match q, hq with
  | 0, _ => rfl
  | 1, _ => rfl
  | 2, _ => rfl
theorem natOf_zero {x : Int} : natOf x = 0 ↔ x = 0 := by
  unfold natOf
  split <;> omega
theorem natOf_eq {x : Int} {n : Nat} (h : n < 1000) : natOf x = n ↔ x = (n : Int) := by
  unfold natOf
  split <;> omega
theorem values_iff (x : Int) : VALUES.contains (natOf x) = true ↔ x ∈ pvalues := by
  have e : pvalues = VALUES.map fun (n : Nat) => (n : Int) := by decide
  rw [e, List.mem_map]
  have hb : ∀ v ∈ VALUES, v < 1000 := by decide
  constructor
  · intro h
    have h : natOf x ∈ VALUES := by simpa using h
    exact ⟨natOf x, h, ((natOf_eq (hb _ h)).mp rfl).symm⟩
  · rintro ⟨v, hv, rfl⟩
    rw [(natOf_eq (x := (v : Int)) (hb v hv)).mpr rfl]
    simpa using hv
theorem values_pos {x : Int} (h : x ∈ pvalues) : 0 < x ∧ x < 1000 := by
  have : ∀ v ∈ pvalues, 0 < v ∧ v < 1000 := by decide
  exact this x h
theorem sim_passed {g : Game} {p : PG} {b l : Nat} {a : Bool} (w : Wf g) (R : Rel g p) (hp : g.phase = .bidding b l a) (c : Bool) :
    Goes g p (some (passed g b l c)) (mGoOn p (if c = true then p.bidder else p.hearer)) := by
  obtain ⟨hb, hl⟩ := R.bl b l a hp
  have wp := w.ph
  unfold PhOk at wp
  rw [hp] at wp
  obtain ⟨_, _, bl, al, _, _⟩ := wp
  have np : g.phase ≠ .playing := by rw [hp]; intro z; cases z
  have no : g.phase = .over → g.alone = none := fun _ => al
  have ea : p.alone = 3 := by rw [R.alone, al]; rfl
  have lb : (if c = true then p.bidder else p.hearer) = ((if c = true then b else l : Nat) : Int) := by split <;> assumption
  rw [lb]
  unfold mGoOn passed
  by_cases h2 : b = 2
  · rw [if_neg (show ¬ p.bidder ≠ 2 by rw [hb, h2]; decide), if_pos (show b = 2 ∨ l = 2 from .inl h2)]
    by_cases h0 : g.bid = 0
    · rw [if_pos (show p.bid = 0 by rw [R.bid, h0]; rfl), if_pos h0]
      exact ⟨⟨R.hands, R.away, rfl, R.bid, R.alone, (fun _ _ _ z => nomatch z), (fun z => by rw [show ({ g with phase := .lastWord } : Game).alone = g.alone from rfl, al] at z; cases z), (fun _ => R.early (.inl al)), (fun z => nomatch z), R.x.stay np no (fun z => nomatch z) (fun z => nomatch z) (fun z => nomatch z) (fun z => by rw [show ({ g with phase := .lastWord } : Game).alone = g.alone from rfl, al] at z; cases z)⟩, rfl⟩
    · rw [if_neg (show ¬ p.bid = 0 by rw [R.bid]; omega), if_neg h0]
      refine ⟨⟨R.hands, R.away, rfl, R.bid, rfl, (fun _ _ _ z => nomatch z), (fun _ z => absurd rfl z), (fun _ => R.early (.inl al)), (fun z => nomatch z), R.x.stay np no (fun z => nomatch z) (fun z => nomatch z) (fun _ => ?_) (fun _ z => absurd rfl z)⟩, rfl⟩
      have hw : (if c = true then b else l) < 3 := by split <;> omega
      show p.hands.getD (((if c = true then b else l : Nat) : Int)).toNat 0 ||| p.away = maskOf (hand g (if c = true then b else l) ++ g.two)
      rw [Int.toNat_natCast, R.get hw, R.away, mask_append]
  · have hl2 : ¬ (b = 2 ∨ l = 2) := by omega
    rw [if_pos (show p.bidder ≠ 2 by rw [hb]; omega), if_neg hl2]
    refine ⟨⟨R.hands, R.away, rfl, R.bid, R.alone, (fun b' l' a' z => ?_), (fun z => by rw [show ({ g with phase := .bidding 2 (if c = true then b else l) false } : Game).alone = g.alone from rfl, al] at z; cases z), (fun _ => R.early (.inl al)), (fun z => nomatch z), R.x.stay np no (fun z => nomatch z) (fun z => nomatch z) (fun z => nomatch z) (fun z => by rw [show ({ g with phase := .bidding 2 (if c = true then b else l) false } : Game).alone = g.alone from rfl, al] at z; cases z)⟩, rfl⟩
    cases z
    exact ⟨rfl, rfl⟩
theorem sim_speak {g : Game} {p : PG} {x : Int} (w : Wf g) (R : Rel g p) : Goes g p (speak g (natOf x)) (mSpeak p x) := by
  have wp := w.ph
  unfold PhOk at wp
  unfold speak mSpeak
  rw [R.phase]
  split
  · rename_i b l hp
    have np : g.phase ≠ .playing := by rw [hp]; intro z; cases z
    have hp0 := hp
    rw [hp] at wp ⊢
    obtain ⟨_, _, bl, al, _, _⟩ := wp
    have no : g.phase = .over → g.alone = none := fun _ => al
    rw [if_pos (show ((phaseNumber (.bidding b l false) : Nat) : Int) = 0 from rfl)]
    unfold mSayValue
    by_cases h0 : x = 0
    · rw [if_pos (natOf_zero.mpr h0), if_pos h0]
      exact sim_passed w R hp false
    · rw [if_neg (fun z => h0 (natOf_zero.mp z)), if_neg h0]
      by_cases hv : x ∈ pvalues
      · have hx := values_pos hv
        have en : (natOf x : Int) = x := by unfold natOf; rw [if_neg (by omega)]; omega
        by_cases hb : g.bid < natOf x
        · rw [if_pos ⟨(values_iff x).mpr hv, hb⟩, if_neg (by rw [R.bid]; intro z; rcases z with z | z; exact z hv; omega)]
          refine ⟨⟨R.hands, R.away, rfl, en.symm, R.alone, (fun b' l' a' z => ?_), (fun z => by rw [show ({ g with bid := natOf x, phase := .bidding b l true } : Game).alone = g.alone from rfl, al] at z; cases z), (fun _ => R.early (.inl al)), (fun z => nomatch z), R.x.stay np no (fun z => nomatch z) (fun z => nomatch z) (fun z => nomatch z) (fun z => by rw [show ({ g with bid := natOf x, phase := .bidding b l true } : Game).alone = g.alone from rfl, al] at z; cases z)⟩, rfl⟩
          cases z
          exact R.bl b l false hp
        · rw [if_neg (fun z => hb z.2), if_pos (.inr (by rw [R.bid]; omega))]
          rfl
      · rw [if_neg (fun z => hv ((values_iff x).mp z.1)), if_pos (.inl hv)]
        rfl
  · rename_i b l hp
    have np : g.phase ≠ .playing := by rw [hp]; intro z; cases z
    have hp0 := hp
    rw [hp] at wp ⊢
    obtain ⟨_, _, bl, al, _, _⟩ := wp
    have no : g.phase = .over → g.alone = none := fun _ => al
    rw [if_neg (show ¬ ((phaseNumber (.bidding b l true) : Nat) : Int) = 0 from (by decide : ¬ ((1 : Nat) : Int) = 0)), if_pos (show ((phaseNumber (.bidding b l true) : Nat) : Int) = 1 from rfl)]
    unfold mReply
    by_cases h0 : x = 0
    · rw [if_pos (natOf_zero.mpr h0), if_pos h0]
      exact sim_passed w R hp true
    · rw [if_neg (fun z => h0 (natOf_zero.mp z)), if_neg h0]
      by_cases h1 : x = 1
      · rw [if_pos ((natOf_eq (by decide)).mpr h1), if_neg (fun z => z h1)]
        refine ⟨⟨R.hands, R.away, rfl, R.bid, R.alone, (fun b' l' a' z => ?_), (fun z => by rw [show ({ g with phase := .bidding b l false } : Game).alone = g.alone from rfl, al] at z; cases z), (fun _ => R.early (.inl al)), (fun z => nomatch z), R.x.stay np no (fun z => nomatch z) (fun z => nomatch z) (fun z => nomatch z) (fun z => by rw [show ({ g with phase := .bidding b l false } : Game).alone = g.alone from rfl, al] at z; cases z)⟩, rfl⟩
        cases z
        exact R.bl b l true hp
      · rw [if_neg (fun z => h1 ((natOf_eq (by decide)).mp z)), if_pos h1]
        rfl
  · rename_i hp
    have np : g.phase ≠ .playing := by rw [hp]; intro z; cases z
    rw [hp] at wp ⊢
    obtain ⟨_, _, al, _, _⟩ := wp
    have no : g.phase = .over → g.alone = none := fun _ => al
    rw [if_neg (show ¬ ((phaseNumber .lastWord : Nat) : Int) = 0 by decide), if_neg (show ¬ ((phaseNumber .lastWord : Nat) : Int) = 1 by decide), if_pos (show ((phaseNumber .lastWord : Nat) : Int) = 2 from rfl)]
    unfold mLastWord
    by_cases h0 : x = 0
    · rw [if_pos (natOf_zero.mpr h0), if_pos h0]
      exact ⟨⟨R.hands, R.away, rfl, R.bid, R.alone, (fun _ _ _ z => nomatch z), (fun z => by rw [show ({ g with phase := .over } : Game).alone = g.alone from rfl, al] at z; cases z), (fun _ => R.early (.inl al)), (fun z => nomatch z), R.x.stay np no (fun z => nomatch z) (fun _ => al) (fun z => nomatch z) (fun z => by rw [show ({ g with phase := .over } : Game).alone = g.alone from rfl, al] at z; cases z)⟩, rfl⟩
    · rw [if_neg (fun z => h0 (natOf_zero.mp z)), if_neg h0]
      by_cases h1 : x = 18
      · rw [if_pos ((natOf_eq (by decide)).mpr h1), if_neg (fun z => z h1)]
        refine ⟨⟨R.hands, R.away, rfl, rfl, rfl, (fun _ _ _ z => nomatch z), (fun _ z => absurd rfl z), (fun _ => R.early (.inl al)), (fun z => nomatch z), R.x.stay np no (fun z => nomatch z) (fun z => nomatch z) (fun _ => ?_) (fun _ z => absurd rfl z)⟩, rfl⟩
        show p.hands.getD 0 0 ||| p.away = maskOf (hand g 0 ++ g.two)
        rw [R.get (by decide), R.away, mask_append]
      · rw [if_neg (fun z => h1 ((natOf_eq (by decide)).mp z)), if_pos h1]
        rfl
  · rename_i n1 n2 n3
    have : phaseNumber g.phase = 3 ∨ phaseNumber g.phase = 4 ∨ phaseNumber g.phase = 5 ∨ phaseNumber g.phase = 6 ∨ phaseNumber g.phase = 7 := by
      cases e : g.phase with
      | bidding b l a =>
        cases a with
        | false => exact absurd e (n1 b l)
        | true => exact absurd e (n2 b l)
      | lastWord => exact absurd e n3
      | choosing => exact .inl rfl
      | laying => exact .inr (.inl rfl)
      | declaring => exact .inr (.inr (.inl rfl))
      | playing => exact .inr (.inr (.inr (.inl rfl)))
      | over => exact .inr (.inr (.inr (.inr rfl)))
    rw [if_neg (by omega), if_neg (by omega), if_neg (by omega)]
    rfl
theorem masks_set {g h : Game} {q : Nat} {l : List Nat} (hq : q < 3) (h3 : g.hands.length = 3) (e : h.hands = g.hands.set q l) :
    [maskOf (hand g 0), maskOf (hand g 1), maskOf (hand g 2)].set q (maskOf l) = [maskOf (hand h 0), maskOf (hand h 1), maskOf (hand h 2)] := by
  rw [hand_set (g := g) (g' := h) e h3 hq, hand_set (g := g) (g' := h) e h3 hq, hand_set (g := g) (g' := h) e h3 hq]
  match q, hq with
  | 0, _ => rfl
  | 1, _ => rfl
  | 2, _ => rfl
theorem phase_choosing {g : Game} : phaseNumber g.phase = 3 ↔ g.phase = .choosing := by
  cases e : g.phase with
  | bidding b l a => cases a <;> simp [phaseNumber]
  | _ => simp [phaseNumber]
theorem phase_laying {g : Game} : phaseNumber g.phase = 4 ↔ g.phase = .laying := by
  cases e : g.phase with
  | bidding b l a => cases a <;> simp [phaseNumber]
  | _ => simp [phaseNumber]
theorem phase_declaring {g : Game} : phaseNumber g.phase = 5 ↔ g.phase = .declaring := by
  cases e : g.phase with
  | bidding b l a => cases a <;> simp [phaseNumber]
  | _ => simp [phaseNumber]
theorem phase_playing {g : Game} : phaseNumber g.phase = 6 ↔ g.phase = .playing := by
  cases e : g.phase with
  | bidding b l a => cases a <;> simp [phaseNumber]
  | _ => simp [phaseNumber]
theorem phase_over {g : Game} : phaseNumber g.phase = 7 ↔ g.phase = .over := by
  cases e : g.phase with
  | bidding b l a => cases a <;> simp [phaseNumber]
  | _ => simp [phaseNumber]
theorem alone_of {g : Game} {p : PG} (R : Rel g p) {q : Nat} (h : g.alone = some q) : p.alone.toNat = q := by
  rw [R.alone, h]
  simp
theorem sim_take {g : Game} {p : PG} {yes : Int} (w : Wf g) (R : Rel g p) : Goes g p (if g.phase ≠ .choosing then none else
      if yes = 0 then some { g with phase := .declaring, own := hand g (g.alone.getD 0) ++ g.two } else some { g with phase := .laying, byHand := false, own := hand g (g.alone.getD 0) ++ g.two, hands := g.hands.set (g.alone.getD 0) (hand g (g.alone.getD 0) ++ g.two), two := [] }) (mTake p yes) := by
  unfold mTake
  by_cases hp : g.phase = .choosing
  · have wp := w.ph
    unfold PhOk at wp
    rw [hp] at wp
    obtain ⟨_, _, ⟨q, hq, al⟩, bh, _⟩ := wp
    have np : g.phase ≠ .playing := by rw [hp]; intro z; cases z
    have no : g.phase = .over → g.alone = none := by rw [hp]; intro z; cases z
    have e3 : p.phase = 3 := by rw [R.phase, hp]; rfl
    rw [if_neg (show ¬ g.phase ≠ .choosing from fun z => z hp), if_neg (show ¬ p.phase ≠ 3 from fun z => z e3)]
    by_cases h0 : yes = 0
    · rw [if_pos h0, if_pos h0]
      exact ⟨⟨R.hands, R.away, rfl, R.bid, R.alone, (fun _ _ _ z => nomatch z), (fun _ _ => bh.symm), (fun z => by rcases z with z | z; exact absurd (al.symm.trans z) (by simp); cases z), (fun z => nomatch z), R.x.stay np no (fun z => nomatch z) (fun z => nomatch z) (fun z => nomatch z) (fun _ _ => R.x.had1 hp)⟩, rfl⟩
    · rw [if_neg h0, if_neg h0]
      have ea : g.alone.getD 0 = q := by rw [al]; rfl
      rw [ea, alone_of R al, R.get hq, R.away, ← mask_append]
      refine ⟨⟨?_, mask_nil.symm, rfl, R.bid, R.alone, (fun _ _ _ z => nomatch z), (fun _ _ => R.early (.inr hp)), (fun _ => R.early (.inr hp)), (fun z => nomatch z), R.x.stay np no (fun z => nomatch z) (fun z => nomatch z) (fun z => nomatch z) (fun _ _ => by show p.had = maskOf (hand g q ++ g.two); rw [R.x.had1 hp, ea])⟩, rfl⟩
      show p.hands.set q _ = _
      rw [R.hands]
      exact masks_set hq w.base.three rfl
  · rw [if_pos hp, if_pos (show p.phase ≠ 3 by rw [R.phase]; intro z; exact hp (phase_choosing.mp (by omega)))]
    rfl
theorem holds_iff {l : List Nat} (h : Hand l) (a : Int) : mHolds (maskOf l) a = l.contains (natOf a) := by
  unfold mHolds
  by_cases h0 : 0 ≤ a
  · have e : natOf a = a.toNat := by unfold natOf; rw [if_neg (by omega)]
    rw [decide_eq_true h0, Bool.true_and, h.testBit, e]
  · have e : natOf a = 1000 := by unfold natOf; rw [if_pos (by omega)]
    rw [decide_eq_false h0, Bool.false_and, e]
    cases q : l.contains 1000 with
    | false => rfl
    | true => exact absurd (h.lt 1000 (by simpa using q)) (by decide)
theorem two_bits {x y : Nat} (hx : x < 32) (hy : y < 32) : 2 ^ x ||| 2 ^ y = maskOf [x, y] := by
  rw [mask_cons, mask_one hx, mask_one hy]
theorem xor_two {l : List Nat} {x y : Nat} (hx : x ∈ l) (hy : y ∈ l) : maskOf l ^^^ maskOf [x, y] = maskOf (l.filter fun c => c != x && c != y) := by
  rw [← mask_xor_sub (a := l) (b := [x, y]) fun c hc => by
    simp only [List.mem_cons, List.not_mem_nil, or_false] at hc
    rcases hc with e | e <;> subst e <;> assumption]
  congr 1
  refine List.filter_congr fun c _ => ?_
  by_cases h1 : c = x <;> by_cases h2 : c = y <;> simp [h1, h2]
theorem sim_lay {g : Game} {p : PG} {a b : Int} (w : Wf g) (R : Rel g p) : Goes g p (
      if g.phase ≠ .laying ∨ natOf a = natOf b ∨ (hand g (g.alone.getD 0)).contains (natOf a) = false ∨ (hand g (g.alone.getD 0)).contains (natOf b) = false then none
      else some { g with phase := .declaring, two := [natOf a, natOf b], hands := g.hands.set (g.alone.getD 0) ((hand g (g.alone.getD 0)).filter fun c => c != natOf a && c != natOf b) }) (mLay p a b) := by
  unfold mLay
  by_cases hp : g.phase = .laying
  · have wp := w.ph
    unfold PhOk at wp
    rw [hp] at wp
    obtain ⟨⟨q, hq, al, _, _⟩, t2, bh, _⟩ := wp
    have np : g.phase ≠ .playing := by rw [hp]; intro z; cases z
    have nc : g.phase ≠ .choosing := by rw [hp]; intro z; cases z
    have no : g.phase = .over → g.alone = none := by rw [hp]; intro z; cases z
    have e4 : p.phase = 4 := by rw [R.phase, hp]; rfl
    have ea : g.alone.getD 0 = q := by rw [al]; rfl
    have hh := w.base.hand q
    rw [if_neg (show ¬ p.phase ≠ 4 from fun z => z e4), ea, alone_of R al, R.get hq, holds_iff hh, holds_iff hh]
    by_cases hab : a = b
    · rw [if_pos (.inr (.inl (by rw [hab]))), if_pos (.inl hab)]
      rfl
    · cases ca : (hand g q).contains (natOf a) with
      | false =>
        rw [if_pos (.inr (.inr (.inl rfl))), if_pos (.inr (.inl rfl))]
        rfl
      | true =>
        cases cb : (hand g q).contains (natOf b) with
        | false =>
          rw [if_pos (.inr (.inr (.inr rfl))), if_pos (.inr (.inr rfl))]
          rfl
        | true =>
          have ma : natOf a ∈ hand g q := by simpa using ca
          have mb : natOf b ∈ hand g q := by simpa using cb
          have la := hh.lt _ ma
          have lb := hh.lt _ mb
          obtain ⟨a0, a1⟩ := natOf_lt la (by decide)
          obtain ⟨b0, b1⟩ := natOf_lt lb (by decide)
          have na : natOf a = a.toNat := by unfold natOf; rw [if_neg (by omega)]
          have nb : natOf b = b.toNat := by unfold natOf; rw [if_neg (by omega)]
          have ne : ¬ natOf a = natOf b := by rw [na, nb]; omega
          have c1 : ¬ (g.phase ≠ .laying ∨ natOf a = natOf b ∨ true = false ∨ true = false) := by
            intro z
            rcases z with z | z | z | z
            · exact z hp
            · exact ne z
            · cases z
            · cases z
          have c2 : ¬ (a = b ∨ true = false ∨ true = false) := by
            intro z
            rcases z with z | z | z
            · exact hab z
            · cases z
            · cases z
          rw [if_neg c1, if_neg c2, ← na, ← nb, two_bits la lb, xor_two ma mb]
          refine ⟨⟨?_, rfl, rfl, R.bid, R.alone, (fun _ _ _ z => nomatch z), (fun _ _ => ?_), (fun z => ?_), (fun z => nomatch z), R.x.stay np no (fun z => nomatch z) (fun z => nomatch z) (fun z => nomatch z) (fun z _ => R.x.had2 z nc)⟩, rfl⟩
          · show p.hands.set q _ = _
            rw [R.hands]
            exact masks_set hq w.base.three rfl
          · show p.fromHand = g.byHand
            exact R.fromHand (by rw [al]; rfl) (by rw [hp]; intro z; cases z)
          · rcases z with z | z
            · exact absurd (al.symm.trans z) (by simp)
            · cases z
  · rw [if_pos (.inl hp), if_pos (show p.phase ≠ 4 by rw [R.phase]; intro z; exact hp (phase_laying.mp (by omega)))]
    rfl
theorem sayable_iff {k said : Int} {b : Bool} (hk : natOf k ≤ 5) : sayable b (natOf k) (natOf said) = true ↔ said ∈ mSayable k b := by
  have k5 : natOf k = 5 ↔ k = 5 := natOf_eq (by decide)
  have n0 : natOf said = 0 ↔ said = 0 := natOf_zero
  have n1 : natOf said = 1 ↔ said = 1 := natOf_eq (n := 1) (by decide)
  have n3 : natOf said = 3 ↔ said = 3 := natOf_eq (n := 3) (by decide)
  have n4 : natOf said = 4 ↔ said = 4 := natOf_eq (n := 4) (by decide)
  have n7 : natOf said = 7 ↔ said = 7 := natOf_eq (n := 7) (by decide)
  unfold sayable mSayable
  by_cases h5 : k = 5
  · rw [if_pos (k5.mpr h5), if_pos h5]
    simp [n0, n4]
  · rw [if_neg (fun z => h5 (k5.mp z)), if_neg h5]
    cases b with
    | false => simp [n0]
    | true => simp [n0, n1, n3, n7]
theorem games_iff {k : Int} : natOf k ≤ 5 ↔ k ∈ ([0, 1, 2, 3, 4, 5] : List Int) := by
  have h : natOf k ≤ 5 ↔ (0 ≤ k ∧ k ≤ 5) := by unfold natOf; split <;> omega
  rw [h]
  simp only [List.mem_cons, List.not_mem_nil, or_false]
  omega
theorem sim_declare {g : Game} {p : PG} {k said : Int} (w : Wf g) (R : Rel g p) : Goes g p (
      if g.phase ≠ .declaring ∨ 5 < natOf k ∨ sayable g.byHand (natOf k) (natOf said) = false then none
      else some { g with phase := .playing, game := natOf k, said := natOf said, points := (g.two.map points).sum, lead := 0 }) (mDeclare p k said) := by
  unfold mDeclare
  by_cases hp : g.phase = .declaring
  · have wp := w.ph
    unfold PhOk at wp
    rw [hp] at wp
    obtain ⟨ten, two2, ⟨q, hq, al⟩, fr⟩ := wp
    have np : g.phase ≠ .playing := by rw [hp]; intro z; cases z
    have no : g.phase = .over → g.alone = none := by rw [hp]; intro z; cases z
    have nc : g.phase ≠ .choosing := by rw [hp]; intro z; cases z
    have e5 : p.phase = 5 := by rw [R.phase, hp]; rfl
    have fh : p.fromHand = g.byHand := R.fromHand (by rw [al]; rfl) (by rw [hp]; intro z; cases z)
    rw [if_neg (show ¬ p.phase ≠ 5 from fun z => z e5), fh]
    by_cases hk : natOf k ≤ 5
    · have hk' := games_iff.mp hk
      by_cases hs : said ∈ mSayable k g.byHand
      · have hs' := (sayable_iff hk).mpr hs
        have c1 : ¬ (g.phase ≠ .declaring ∨ 5 < natOf k ∨ sayable g.byHand (natOf k) (natOf said) = false) := by
          intro z
          rcases z with z | z | z
          · exact z hp
          · omega
          · rw [hs'] at z; cases z
        have c2 : ¬ (k ∉ ([0, 1, 2, 3, 4, 5] : List Int) ∨ said ∉ mSayable k g.byHand) := by
          intro z
          rcases z with z | z
          · exact z hk'
          · exact z hs
        rw [if_neg c1, if_neg c2]
        have ek : k = (natOf k : Int) := (natOf_eq (n := natOf k) (by omega)).mp rfl
        have s7 : ∀ v ∈ mSayable k g.byHand, 0 ≤ v ∧ v ≤ 7 := by
          intro v hv
          unfold mSayable at hv
          split at hv
          · simp at hv; omega
          · split at hv
            · simp at hv; omega
            · simp at hv; omega
        have es : said = (natOf said : Int) := by
          have := s7 said hs
          unfold natOf
          rw [if_neg (by omega)]
          omega
        refine ⟨⟨R.hands, R.away, rfl, R.bid, R.alone, (fun _ _ _ z => nomatch z), (fun _ _ => rfl), (fun z => ?_), (fun _ => ⟨congrArg some ek, es⟩), ?_⟩, rfl⟩
        · rcases z with z | z
          · exact absurd (al.symm.trans z) (by simp)
          · cases z
        · obtain ⟨_, tk0⟩ := R.x.before np no
          refine ⟨by rw [R.x.lead, fr.lead], R.x.trick, R.x.tricks, (fun z => nomatch z), (fun z _ => R.x.had2 z nc), (fun z => absurd rfl z), (fun _ => ⟨?_, hs', by show p.taken < _; rw [tk0]; decide⟩), (fun z => nomatch z)⟩
          show Fit _ (p.taken ||| p.away)
          rw [tk0, R.away, Nat.zero_or]
          exact fit_start w.base ten two2 fr.trick rfl rfl rfl
      · have hs' : sayable g.byHand (natOf k) (natOf said) = false := by
          cases q : sayable g.byHand (natOf k) (natOf said) with
          | false => rfl
          | true => exact absurd ((sayable_iff hk).mp q) hs
        rw [if_pos (.inr (.inr hs')), if_pos (.inr hs)]
        rfl
    · rw [if_pos (.inr (.inl (by omega))), if_pos (.inl (fun z => hk (games_iff.mpr z)))]
      rfl
  · rw [if_pos (.inl hp), if_pos (show p.phase ≠ 5 by rw [R.phase]; intro z; exact hp (phase_declaring.mp (by omega)))]
    rfl
/-! ### the deal -/
def mSetOf (l : List Int) : Nat := l.foldl (fun b c => b ||| 2 ^ c.toNat) 0
theorem setOf_acc : ∀ (l : List Int) (acc : Nat), (∀ c ∈ l, 0 ≤ c ∧ c < 32) → l.foldl (fun b c => b ||| 2 ^ c.toNat) acc = acc ||| maskOf (l.map Int.toNat)
  | [], acc, _ => by rw [List.map_nil, mask_nil]; simp
  | c :: r, acc, h => by
    have hc := h c (List.mem_cons_self ..)
    rw [List.foldl_cons, setOf_acc r _ fun d hd => h d (List.mem_cons_of_mem _ hd), List.map_cons, mask_cons, mask_one (show c.toNat < 32 by omega), Nat.or_assoc]
theorem setOf_mask {l : List Int} (h : ∀ c ∈ l, 0 ≤ c ∧ c < 32) : mSetOf l = maskOf (l.map Int.toNat) := by
  unfold mSetOf
  rw [setOf_acc l 0 h, Nat.zero_or]
def deck : List Int := (List.range 32).map fun (i : Nat) => (i : Int)
theorem deck_sorted : deck.Pairwise (· ≤ ·) := by decide
/-- sorted(cards) == list(range(32)) -/
theorem whole_sorted {cards ns : List Int} (hl : cards.length = 32) (hb : ∀ z ∈ cards, 0 ≤ z ∧ z < 256) (hp : ns.Perm cards) (hs : ns.Pairwise (· ≤ ·)) :
    ns = deck ↔ whole (Rc32Neutral.natsOf cards) = true := by
  have back : cards = (cards.map Int.toNat).map fun (i : Nat) => (i : Int) := by
    rw [List.map_map]
    refine (List.map_id cards).symm.trans (List.map_congr_left fun z hz => ?_)
    have := (hb z hz).1
    show z = ((z.toNat : Nat) : Int)
    omega
  constructor
  · intro e
    refine perm_whole ?_
    have h1 : cards.Perm deck := by rw [← e]; exact hp.symm
    have h2 := h1.map Int.toNat
    have e2 : deck.map Int.toNat = List.range 32 := by decide
    rw [e2] at h2
    exact h2
  · intro h
    have p1 := whole_perm (l := cards.map Int.toNat) (by rw [List.length_map]; exact hl) h
    have p2 : cards.Perm deck := by
      have := p1.map fun (i : Nat) => (i : Int)
      rw [← back] at this
      exact this
    exact (hp.trans p2).eq_of_pairwise (fun x y _ _ h1 h2 => Int.le_antisymm h1 h2) hs deck_sorted
/-- a new game, as __init__ makes it -/
def mGame (cards : List Int) : PG where
  hands := [mSetOf (cards.take 10), mSetOf ((cards.drop 10).take 10), mSetOf ((cards.drop 20).take 10)]
  away := mSetOf (cards.drop 30)
  phase := 0
  bidder := 1
  hearer := 0
  bid := 0
  alone := 3
  fromHand := false
  declared := none
  said := 0
  had := 0
  leader := 0
  trick := []
  taken := 0
  tricks := 0
theorem sim_deal {cards : List Int} (hl : cards.length = 32) (hb : ∀ z ∈ cards, 0 ≤ z ∧ z < 256) (h : whole (Rc32Neutral.natsOf cards) = true) :
    Rel { hands := [(Rc32Neutral.natsOf cards).take 10, ((Rc32Neutral.natsOf cards).drop 10).take 10, ((Rc32Neutral.natsOf cards).drop 20).take 10], two := ((Rc32Neutral.natsOf cards).drop 30).take 2, phase := .bidding 1 0 false } (mGame cards) := by
  have p1 := whole_perm (l := cards.map Int.toNat) (by rw [List.length_map]; exact hl) h
  have b32 : ∀ z ∈ cards, 0 ≤ z ∧ z < 32 := fun z hz => by
    have h1 := (hb z hz).1
    have h2 : z.toNat ∈ List.range 32 := p1.mem_iff.mp (List.mem_map_of_mem hz)
    have h3 := List.mem_range.mp h2
    omega
  have e30 : ((cards.map Int.toNat).drop 30).take 2 = (cards.drop 30).map Int.toNat := by
    rw [List.take_of_length_le (by rw [List.length_drop, List.length_map]; omega), List.map_drop]
  refine ⟨?_, ?_, rfl, rfl, rfl, (fun b l a z => ?_), (fun z => nomatch z), (fun _ => rfl), (fun z => nomatch z), ⟨rfl, rfl, rfl, (fun z => nomatch z), (fun z => nomatch z), (fun _ _ => ⟨rfl, rfl⟩), (fun z => nomatch z), (fun z => nomatch z)⟩⟩
  · show [_, _, _] = [maskOf ((cards.map Int.toNat).take 10), maskOf (((cards.map Int.toNat).drop 10).take 10), maskOf (((cards.map Int.toNat).drop 20).take 10)]
    rw [← List.map_drop, ← List.map_drop, ← List.map_take, ← List.map_take, ← List.map_take, ← setOf_mask, ← setOf_mask, ← setOf_mask]
    · exact fun c hc => b32 c (List.mem_of_mem_drop (List.mem_of_mem_take hc))
    · exact fun c hc => b32 c (List.mem_of_mem_drop (List.mem_of_mem_take hc))
    · exact fun c hc => b32 c (List.mem_of_mem_take hc)
  · show mSetOf (cards.drop 30) = maskOf (((cards.map Int.toNat).drop 30).take 2)
    rw [e30, ← setOf_mask fun c hc => b32 c (List.mem_of_mem_drop hc)]
  · cases z
    exact ⟨rfl, rfl⟩
end Tc

/-! What is trump, what follows, who takes a trick: the program's lists against the specification. Plain Lean. -/
namespace Tc
open Rc32

def jacks : List Int := [31, 23, 15, 7]
def ranks : List Int := [6, 5, 4, 3, 2, 1, 0]
def ranksN : List Int := [6, 4, 3, 7, 5, 2, 1, 0]
def mSuit (s : Int) (rs : List Int) : List Int := rs.map fun r => 8 * s + r
def mTrumps (d : Int) : List Int := if d = 5 then [] else if d = 4 then jacks else jacks ++ mSuit d ranks
def mFollowers (d led : Int) : List Int := if led ∈ mTrumps d then mTrumps d else mSuit (led / 8) (if d = 5 then ranksN else ranks)
def mPlayable (hand f : Nat) : Nat := if hand &&& f = 0 then hand else hand &&& f
def mPlayableIn (d : Int) (hand : Nat) : List Int → Nat
  | [] => hand
  | t :: _ => mPlayable hand (mSetOf (mFollowers d t))
/-- strong[card] = 32 - place, one after another -/
def mStrFrom : Nat → List Int → List Int → List Int
  | _, [], s => s
  | i, c :: r, s => mStrFrom (i + 1) r (s.set c.toNat (32 - (i : Int)))
def mStr (d led : Int) : List Int := mStrFrom 0 (mTrumps d ++ mFollowers d led) (List.replicate 32 0)
/-! ### tables -/
def nT (d : Nat) : Nat := if d = 4 then 4 else if d = 5 then 0 else 11
/-- how strong a card is where a card of kind k is led -/
def sK (d k c : Nat) : Nat := if trump d c = true then (if rank c = 7 then 29 + suit c else 22 + rank c) - (if k = 4 then nT d else 0) else if kind d c = k then (if d = 5 then 25 + height 5 c else 26 - nT d + rank c) else 0
def beatsK (d k c e : Nat) : Bool := if trump d c = true then !trump d e || decide (height d e < height d c) else kind d c == k && (!trump d e && (kind d e != k || decide (height d e < height d c)))
theorem beats_kind (d l c e : Nat) : beats d l c e = beatsK d (kind d l) c e := rfl
theorem beats_tab : ((List.range 6).all fun d => (List.range 5).all fun k => (List.range 32).all fun c => (List.range 32).all fun e => sK d k e == 0 || (beatsK d k c e == decide (sK d k e < sK d k c))) = true := by decide +kernel
theorem str_tab : ((List.range 6).all fun d => (List.range 32).all fun l => decide (mStr (d : Nat) (l : Nat) = (List.range 32).map fun c => ((sK d (kind d l) c : Nat) : Int))) = true := by decide +kernel
theorem lead_tab : ((List.range 6).all fun d => (List.range 32).all fun l => decide (0 < sK d (kind d l) l ∧ kind d l < 5)) = true := by decide +kernel
theorem foll_tab : ((List.range 6).all fun d => (List.range 32).all fun l => decide (mSetOf (mFollowers (d : Nat) (l : Nat)) = maskOf ((List.range 32).filter fun c => kind d c == kind d l))) = true := by decide +kernel
theorem foll_in : ((List.range 6).all fun d => (List.range 32).all fun l => (mTrumps (d : Nat) ++ mFollowers (d : Nat) (l : Nat)).all fun c => decide (0 ≤ c ∧ c < 32)) = true := by decide +kernel
theorem foll_len : ((List.range 6).all fun d => (List.range 32).all fun l => decide ((mTrumps (d : Nat) ++ mFollowers (d : Nat) (l : Nat)).length ≤ 32)) = true := by decide +kernel
theorem all6 {p : Nat → Bool} {n : Nat} (h : (List.range n).all p = true) {d : Nat} (hd : d < n) : p d = true := List.all_eq_true.mp h d (List.mem_range.mpr hd)
theorem str_at {d l c : Nat} (hd : d < 6) (hl : l < 32) (hc : c < 32) : (mStr (d : Nat) (l : Nat))[c]? = some ((sK d (kind d l) c : Nat) : Int) := by
  have h := of_decide_eq_true (all6 (all6 str_tab hd) hl)
  rw [h, List.getElem?_map, List.getElem?_range hc]
  rfl
theorem str_len {d l : Nat} (hd : d < 6) (hl : l < 32) : (mStr (d : Nat) (l : Nat)).length = 32 := by
  have h := of_decide_eq_true (all6 (all6 str_tab hd) hl)
  rw [h, List.length_map, List.length_range]
theorem foll_bit {d l : Nat} (hd : d < 6) (hl : l < 32) (c : Nat) : (mSetOf (mFollowers (d : Nat) (l : Nat))).testBit c = (decide (c < 32) && (kind d c == kind d l)) := by
  have h := of_decide_eq_true (all6 (all6 foll_tab hd) hl)
  rw [h, mask_testBit]
  by_cases hc : c < 32
  · rw [decide_eq_true hc, Bool.true_and, Bool.true_and, List.contains_eq_mem]
    cases q : kind d c == kind d l with
    | true => exact decide_eq_true (List.mem_filter.mpr ⟨List.mem_range.mpr hc, q⟩)
    | false =>
      refine decide_eq_false fun z => ?_
      rw [(List.mem_filter.mp z).2] at q
      cases q
  · rw [decide_eq_false hc, Bool.false_and, Bool.false_and]
/-- the first of the greatest -/
def FirstMax (ns : List Int) (j : Nat) : Prop := ∃ m, ns[j]? = some m ∧ (∀ y ∈ ns, y ≤ m) ∧ ∀ i y, i < j → ns[i]? = some y → y ≠ m
/-- WHO TAKES IT -/
theorem taker_is {d a b c j : Nat} (hd : d < 6) (ha : a < 32) (hb : b < 32) (hc : c < 32)
    (h : FirstMax [((sK d (kind d a) a : Nat) : Int), ((sK d (kind d a) b : Nat) : Int), ((sK d (kind d a) c : Nat) : Int)] j) : j = taker d [a, b, c] := by
  obtain ⟨s0, k5⟩ := of_decide_eq_true (all6 (all6 lead_tab hd) ha)
  have bt : ∀ x y, x < 32 → y < 32 → 0 < sK d (kind d a) y → beats d a x y = decide (sK d (kind d a) y < sK d (kind d a) x) := fun x y hx hy h0 => by
    have := all6 (all6 (all6 (all6 beats_tab hd) k5) hx) hy
    rw [Bool.or_eq_true] at this
    rcases this with z | z
    · simp at z; omega
    · rw [beats_kind]; simpa using z
  have et : taker d [a, b, c] = (fun k => if beats d a c ([a, b, c].getD k 0) = true then 2 else k) (if beats d a b a = true then 1 else 0) := by
    unfold taker
    show (fun k => if beats d a c ([a, b, c].getD k 0) = true then 2 else k) ((fun k => if beats d a b ([a, b, c].getD k 0) = true then 1 else k) (if beats d a a a = true then 0 else 0)) = _
    have : (if beats d a a a = true then 0 else 0) = 0 := by split <;> rfl
    rw [this]
    rfl
  rw [et, bt b a hb ha s0]
  obtain ⟨m, h1, h2, h3⟩ := h
  have hm : ∀ z : Int, z = ((sK d (kind d a) a : Nat) : Int) ∨ z = ((sK d (kind d a) b : Nat) : Int) ∨ z = ((sK d (kind d a) c : Nat) : Int) → z ≤ m := fun z hz => h2 z (by
    rcases hz with e | e | e <;> rw [e] <;> simp)
  have m1 := hm _ (.inl rfl)
  have m2 := hm _ (.inr (.inl rfl))
  have m3 := hm _ (.inr (.inr rfl))
  by_cases h12 : sK d (kind d a) a < sK d (kind d a) b
  · rw [if_pos (by simpa using h12)]
    show j = if beats d a c b = true then 2 else 1
    rw [bt c b hc hb (by omega)]
    match j, h1, h3 with
    | 0, h1, _ => simp at h1; omega
    | 1, h1, _ => simp at h1; rw [if_neg (by simp; omega)]
    | 2, h1, h3 =>
      simp at h1
      have n1 := h3 1 _ (by decide) rfl
      rw [if_pos (by simp; omega)]
    | j + 3, h1, _ => simp at h1
  · rw [if_neg (by simpa using h12)]
    show j = if beats d a c a = true then 2 else 0
    match j, h1, h3 with
    | 0, h1, _ =>
      simp at h1
      rw [bt c a hc ha (by omega), if_neg]
      simp
      omega
    | 1, h1, h3 =>
      simp at h1
      have n0 := h3 0 _ (by decide) rfl
      omega
    | 2, h1, h3 =>
      simp at h1
      have n0 := h3 0 _ (by decide) rfl
      rw [bt c a hc ha (by omega), if_pos]
      simp
      omega
    | j + 3, h1, _ => simp at h1
end Tc

/-! play, legal, hand, state: the program's defs as plain functions against the specification. Plain Lean. -/
namespace Tc
open Rc32

theorem mask_zero {l : List Nat} (h : Hand l) : maskOf l = 0 ↔ l = [] := by
  constructor
  · intro e
    cases l with
    | nil => rfl
    | cons c r =>
      have := (h.mem_iff c).mpr (List.mem_cons_self ..)
      rw [e] at this
      simp at this
  · intro e; rw [e]; exact mask_nil
theorem legal_hand {d : Nat} {hand trick : List Nat} (h : Hand hand) : Hand (legal d hand trick) := by
  unfold legal
  split
  · exact h
  · simp only
    split
    · exact h
    · exact h.filter _
/-- WHAT MAY BE PLAYED, as a mask -/
theorem playable_mask {d l : Nat} {hand : List Nat} (h : Hand hand) (hd : d < 6) (hl : l < 32) (r : List Nat) : mPlayable (maskOf hand) (mSetOf (mFollowers (d : Nat) (l : Nat))) = maskOf (legal d hand (l :: r)) := by
  have hf := h.filter fun c => kind d c == kind d l
  have e : maskOf hand &&& mSetOf (mFollowers (d : Nat) (l : Nat)) = maskOf (hand.filter fun c => kind d c == kind d l) := by
    refine hf.of_bits fun c => ?_
    rw [Nat.testBit_and, h.testBit, foll_bit hd hl, List.contains_eq_mem, List.contains_eq_mem]
    by_cases hc : c ∈ hand
    · have := h.lt c hc
      cases q : kind d c == kind d l <;> simp [hc, this, q, List.mem_filter]
    · simp [hc, List.mem_filter]
  unfold mPlayable legal
  simp only
  rw [e]
  by_cases hz : hand.filter (fun c => kind d c == kind d l) = []
  · rw [if_pos ((mask_zero hf).mpr hz), hz]
    rfl
  · rw [if_neg (fun z => hz ((mask_zero hf).mp z)), if_neg]
    rw [List.isEmpty_iff]
    exact hz
theorem playableIn_mask {d : Nat} {hand trick : List Nat} (h : Hand hand) (hd : d < 6) (ht : ∀ c ∈ trick, c < 32) : mPlayableIn (d : Nat) (maskOf hand) (trick.map fun (c : Nat) => (c : Int)) = maskOf (legal d hand trick) := by
  cases trick with
  | nil => rfl
  | cons t r => exact playable_mask h hd (ht t (List.mem_cons_self ..)) r
/-! ### the defs -/
def mTurn (p : PG) : Nat := ((p.leader + p.trick.length) % 3).toNat
def mNow (p : PG) : Nat := mPlayableIn (p.declared.getD 0) (p.hands.getD (mTurn p) 0) p.trick
def mCounted (m : Nat) : List Int := [((mCards m).length : Int), (m : Int)]
def mLegal (p : PG) : List Int := if p.phase ≠ 6 then [-1] else mCounted (mNow p)
/-- a card out of the hand, into the trick -/
def mPut (p : PG) (card : Int) : PG := { p with hands := p.hands.set (mTurn p) (p.hands.getD (mTurn p) 0 ^^^ mSetOf [card]), trick := p.trick ++ [card] }
/-- the trick is over: the card at place j takes it -/
def mGain (p : PG) (j : Nat) : PG := if (p.leader + j) % 3 = p.alone then { p with leader := (p.leader + j) % 3, taken := p.taken ||| mSetOf p.trick, tricks := p.tricks + 1, trick := [] } else { p with leader := (p.leader + j) % 3, trick := [] }
def mOut (p : PG) : Prop := (p.declared = some 5 ∧ p.tricks > 0) ∨ p.hands = [0, 0, 0]
instance (p : PG) : Decidable (mOut p) := by unfold mOut; infer_instance
def mEnd (p : PG) (j : Nat) : PG := if mOut (mGain p j) then { mGain p j with phase := 7 } else mGain p j
/-- the strengths of a trick's cards -/
def mShown (p : PG) : List Int := p.trick.map fun c => (mStr (p.declared.getD 0) (p.trick.getD 0 0)).getD c.toNat 0
def mHand (p : PG) (who : Int) : List Int := if who = 3 then mCounted p.away else if 0 ≤ who ∧ who < 3 then mCounted (p.hands.getD who.toNat 0) else [-1]
def mActs (p : PG) : Int := if p.phase = 0 then p.bidder else if p.phase = 1 then p.hearer else if p.phase = 2 then 0 else if p.phase = 6 then (mTurn p : Int) else if p.phase = 7 then 3 else p.alone
def mPoints (p : PG) : Nat := mPts (p.taken ||| p.away)
def mState (p : PG) : List Int := [p.phase, mActs p, p.alone, p.bid, (if p.declared = none then 0 else (mPoints p : Int)), p.tricks, (p.trick.length : Int)]

/-! ### what may be played -/
theorem turn_is {g : Game} {p : PG} (R : Rel g p) (hp : g.phase = .playing) : mTurn p = turn g := by
  unfold mTurn
  rw [turn_playing hp, R.x.lead, R.x.trick, List.length_map]
  omega
theorem now_mask {g : Game} {p : PG} (w : Wf g) (R : Rel g p) (hp : g.phase = .playing) : mNow p = maskOf (may g) := by
  obtain ⟨_, pl⟩ := w.playing hp
  unfold mNow may
  rw [turn_is R hp, R.get (turn_lt hp), (R.declared hp).1, R.x.trick]
  exact playableIn_mask (w.base.hand _) (by have := pl.game; omega) pl.cards
theorem may_hand {g : Game} (w : Wf g) : Hand (may g) := legal_hand (w.base.hand _)
theorem counted_mask {l : List Nat} (h : Hand l) : mCounted (maskOf l) = [(l.length : Int), (maskOf l : Int)] := by
  unfold mCounted
  rw [h.cards.length_eq]
theorem sim_legal {g : Game} {p : PG} (w : Wf g) (R : Rel g p) : (g.phase ≠ .playing → mLegal p = [-1]) ∧ (g.phase = .playing → mLegal p = [((may g).length : Int), (maskOf (may g) : Int)]) := by
  unfold mLegal
  refine ⟨fun h => if_pos (by rw [R.phase]; intro z; exact h (phase_playing.mp (by omega))), fun h => ?_⟩
  rw [if_neg (by rw [R.phase, h]; decide), now_mask w R h, counted_mask (may_hand w)]
theorem sim_hand {g : Game} {p : PG} {who : Int} (w : Wf g) (R : Rel g p) : ((who < 0 ∨ 3 < who) → mHand p who = [-1]) ∧
    (¬ (who < 0 ∨ 3 < who) → mHand p who = [((if who = 3 then g.two else hand g who.toNat).length : Int), (maskOf (if who = 3 then g.two else hand g who.toNat) : Int)]) := by
  unfold mHand
  refine ⟨fun h => by rw [if_neg (by omega), if_neg (by omega)], fun h => ?_⟩
  by_cases h3 : who = 3
  · rw [if_pos h3, if_pos h3, R.away, counted_mask w.base.two]
  · rw [if_neg h3, if_pos (by omega), if_neg h3, R.get (by omega), counted_mask (w.base.hand _)]
theorem sim_state {g : Game} {p : PG} (w : Wf g) (R : Rel g p) :
    mState p = [(phaseNumber g.phase : Int), (turn g : Int), ((g.alone.getD 3 : Nat) : Int), (g.bid : Int), (g.points : Int), (g.tricks : Int), (g.trick.length : Int)] := by
  unfold mState
  have wp := w.ph
  unfold PhOk at wp
  have pts0 : Fresh g → g.phase ≠ .playing → (g.phase = .over → g.alone = none) → (if p.declared = none then (0 : Int) else (mPoints p : Int)) = (g.points : Int) := fun f h1 h2 => by
    rw [if_pos (R.x.before h1 h2).1, f.points]
    rfl
  have key : mActs p = (turn g : Int) ∧ (if p.declared = none then (0 : Int) else (mPoints p : Int)) = (g.points : Int) := by
    unfold mActs
    rw [R.phase]
    cases hp : g.phase with
    | bidding b l a =>
      rw [hp] at wp
      obtain ⟨h1, h2⟩ := R.bl b l a hp
      refine ⟨?_, pts0 wp.2.2.2.2.2 (by rw [hp]; intro z; cases z) (by rw [hp]; intro z; cases z)⟩
      unfold turn
      rw [hp]
      cases a with
      | false => rw [if_pos (by rfl)]; exact h1
      | true => rw [if_neg (by show ¬ ((1 : Nat) : Int) = 0; decide), if_pos (by rfl)]; exact h2
    | lastWord =>
      rw [hp] at wp
      refine ⟨?_, pts0 wp.2.2.2.2 (by rw [hp]; intro z; cases z) (by rw [hp]; intro z; cases z)⟩
      unfold turn
      rw [hp]
      rfl
    | choosing =>
      rw [hp] at wp
      obtain ⟨_, _, ⟨q, _, al⟩, _, f⟩ := wp
      refine ⟨?_, pts0 f (by rw [hp]; intro z; cases z) (by rw [hp]; intro z; cases z)⟩
      unfold turn
      rw [hp]
      show p.alone = _
      rw [R.alone, al]
      rfl
    | laying =>
      rw [hp] at wp
      obtain ⟨⟨q, _, al, _⟩, _, _, f⟩ := wp
      refine ⟨?_, pts0 f (by rw [hp]; intro z; cases z) (by rw [hp]; intro z; cases z)⟩
      unfold turn
      rw [hp]
      show p.alone = _
      rw [R.alone, al]
      rfl
    | declaring =>
      rw [hp] at wp
      obtain ⟨_, _, ⟨q, _, al⟩, f⟩ := wp
      refine ⟨?_, pts0 f (by rw [hp]; intro z; cases z) (by rw [hp]; intro z; cases z)⟩
      unfold turn
      rw [hp]
      show p.alone = _
      rw [R.alone, al]
      rfl
    | playing =>
      refine ⟨?_, ?_⟩
      · show (mTurn p : Int) = _
        rw [turn_is R hp]
      · rw [if_neg (by rw [(R.declared hp).1]; intro z; cases z), (R.x.mid hp).fit.pts]
        rfl
    | over =>
      refine ⟨?_, ?_⟩
      · unfold turn
        rw [hp]
        rfl
      · rw [hp] at wp
        rcases wp with ⟨al, f⟩ | ⟨⟨q, _, al⟩, _⟩
        · exact pts0 f (by rw [hp]; intro z; cases z) (fun _ => al)
        · have e := R.x.over hp (by rw [al]; intro z; cases z)
          rw [if_neg (by rw [e.declared.1]; intro z; cases z), e.pts]
          rfl
  rw [key.1, key.2, R.phase, R.alone, R.bid, R.x.tricks, R.x.trick, List.length_map]

/-! ### a card played -/
theorem setOf_one {c : Nat} (h : c < 32) : mSetOf [(c : Int)] = maskOf [c] := by
  rw [setOf_mask (by intro x hx; simp at hx; omega)]
  rfl
theorem xor_one {l : List Nat} {c : Nat} (h : c ∈ l) : maskOf l ^^^ maskOf [c] = maskOf (l.filter fun d => d != c) := by
  rw [← mask_xor_sub (a := l) (b := [c]) fun x hx => by simp at hx; rw [hx]; exact h]
  congr 1
  refine List.filter_congr fun x _ => ?_
  by_cases e : x = c <;> simp [e]
theorem setOf_nats {l : List Nat} (h : ∀ c ∈ l, c < 32) : mSetOf (l.map fun (c : Nat) => (c : Int)) = maskOf l := by
  rw [setOf_mask (by
    intro x hx
    obtain ⟨c, hc, rfl⟩ := List.mem_map.mp hx
    have := h c hc
    omega), List.map_map]
  congr 1
  refine (List.map_congr_left fun c _ => ?_).trans (List.map_id l)
  rfl
theorem left_zero {g : Game} (h3 : g.hands.length = 3) : left g = 0 ↔ g.hands.flatten = [] := by
  obtain ⟨x, y, z, e⟩ := three_cases h3
  unfold left
  rw [e]
  simp only [List.map_cons, List.map_nil, List.sum_cons, List.sum_nil, List.flatten_cons, List.flatten_nil, List.append_nil, ← List.length_eq_zero_iff, List.length_append]
  omega
theorem hands_zero {g : Game} (b : Base g) : [maskOf (hand g 0), maskOf (hand g 1), maskOf (hand g 2)] = [0, 0, 0] ↔ left g = 0 := by
  rw [left_zero b.three]
  obtain ⟨x, y, z, e⟩ := three_cases b.three
  have h0 := mask_zero (b.hand 0)
  have h1 := mask_zero (b.hand 1)
  have h2 := mask_zero (b.hand 2)
  unfold hand at h0 h1 h2 ⊢
  rw [e] at h0 h1 h2 ⊢
  simp only [List.getD_cons_zero, List.getD_cons_succ, List.cons.injEq, and_true] at h0 h1 h2 ⊢
  rw [h0, h1, h2]
  simp
/-- REL behind a card that leaves the trick open -/
theorem rel_put {g : Game} {p : PG} {c : Nat} (w : Wf g) (R : Rel g p) (hp : g.phase = .playing) (hc : c ∈ may g) (hl : g.trick.length < 2) :
    Rel (next g c) (mPut p (c : Int)) := by
  have M := R.x.mid hp
  have F := (fit_next w hp hc M.fit).1 hl
  have hm := legal_mem hc
  have tl := turn_lt hp
  rcases next_cases hp hc with ⟨_, e⟩ | ⟨l1, _⟩
  · rw [e] at F ⊢
    refine ⟨?_, R.away, R.phase, R.bid, R.alone, (fun b l a z => R.bl b l a z), R.fromHand, R.early, R.declared, ⟨R.x.lead, ?_, R.x.tricks, (fun z => by rw [show g.phase = _ from z] at hp; cases hp), R.x.had2, R.x.before, (fun _ => ⟨F, M.said, M.taken⟩), (fun z => by rw [show g.phase = _ from z] at hp; cases hp)⟩⟩
    · show p.hands.set (mTurn p) (p.hands.getD (mTurn p) 0 ^^^ mSetOf [(c : Int)]) = _
      rw [turn_is R hp, R.get tl, setOf_one (may_lt w hc), xor_one hm, R.hands]
      exact masks_set tl w.base.three rfl
    · show p.trick ++ [(c : Int)] = _
      rw [R.x.trick]
      simp
  · exact absurd hl l1
theorem or_right (a b m : Nat) : (a ||| m) ||| b = (a ||| b) ||| m := by rw [Nat.or_assoc, Nat.or_comm m b, ← Nat.or_assoc]
/-- .. behind one that ends it -/
theorem rel_end {g : Game} {p : PG} {c j : Nat} (w : Wf g) (R : Rel g p) (hp : g.phase = .playing) (hc : c ∈ may g) (hl : ¬ g.trick.length < 2) (hj : j = taker g.game (g.trick ++ [c])) :
    Rel (next g c) (mEnd (mPut p (c : Int)) j) := by
  have M := R.x.mid hp
  have hm := legal_mem hc
  have tl := turn_lt hp
  have wn := wf_next w hp hc
  obtain ⟨⟨q, hq, al⟩, pl⟩ := w.playing hp
  have ln := left_next w hp hc
  have le := left_eq w hp
  have t2 : g.trick.length = 2 := by have := pl.trick; omega
  have hhands : (mPut p (c : Int)).hands = [maskOf (hand (next g c) 0), maskOf (hand (next g c) 1), maskOf (hand (next g c) 2)] := by
    show p.hands.set (mTurn p) (p.hands.getD (mTurn p) 0 ^^^ mSetOf [(c : Int)]) = _
    rw [turn_is R hp, R.get tl, setOf_one (may_lt w hc), xor_one hm, R.hands]
    refine masks_set tl w.base.three ?_
    rcases next_cases hp hc with ⟨l1, e⟩ | ⟨_, _, _, _, _, _, _, e⟩
    · exact absurd l1 hl
    · rw [e]; rfl
  have htrick : (mPut p (c : Int)).trick = (g.trick ++ [c]).map fun (c : Nat) => (c : Int) := by
    show p.trick ++ [(c : Int)] = _
    rw [R.x.trick]
    simp
  rcases next_cases hp hc with ⟨l1, _⟩ | ⟨_, k, mine, ov, ek, em, eo, e⟩
  · exact absurd l1 hl
  · obtain ⟨hT, F⟩ := (fit_next w hp hc M.fit).2 hl k ek
    rw [← em] at F
    rw [← hj] at ek
    have elead : ((mPut p (c : Int)).leader + j) % 3 = (k : Int) := by
      show (p.leader + j) % 3 = _
      rw [R.x.lead, ek]
      omega
    have ealone : (mPut p (c : Int)).alone = (q : Int) := by
      show p.alone = _
      rw [R.alone, al]
      rfl
    have emine : mine = true ↔ (k : Int) = (q : Int) := by
      rw [em, al]
      simp only [beq_iff_eq, Option.some.injEq]
      omega
    -- what the trick's end leaves
    have gn : ∃ P : PG, mGain (mPut p (c : Int)) j = P ∧ P.hands = (mPut p (c : Int)).hands ∧ P.away = p.away ∧ P.phase = p.phase ∧ P.bid = p.bid ∧ P.alone = p.alone ∧ P.bidder = p.bidder ∧ P.hearer = p.hearer ∧ P.fromHand = p.fromHand ∧ P.declared = p.declared ∧ P.said = p.said ∧ P.had = p.had ∧
        P.leader = (k : Int) ∧ P.trick = [] ∧ P.tricks = ((g.tricks + mine.toNat : Nat) : Int) ∧ P.taken ||| P.away = (if mine = true then (p.taken ||| p.away) ||| maskOf (g.trick ++ [c]) else p.taken ||| p.away) ∧ P.taken < 2 ^ 32 := by
      refine ⟨_, rfl, ?_⟩
      unfold mGain
      rw [elead, ealone]
      by_cases hmi : mine = true
      · rw [if_pos (emine.mp hmi), if_pos hmi, htrick, setOf_nats hT.lt]
        refine ⟨rfl, rfl, rfl, rfl, ealone.symm, rfl, rfl, rfl, rfl, rfl, rfl, rfl, rfl, ?_, or_right _ _ _, Nat.or_lt_two_pow M.taken (mask_lt _)⟩
        show p.tricks + 1 = _
        rw [R.x.tricks, hmi]
        simp
      · have hmf : mine = false := by cases mine with | false => rfl | true => exact absurd rfl hmi
        rw [if_neg (fun z => hmi (emine.mpr z)), if_neg hmi]
        refine ⟨rfl, rfl, rfl, rfl, ealone.symm, rfl, rfl, rfl, rfl, rfl, rfl, rfl, rfl, ?_, rfl, M.taken⟩
        show p.tricks = _
        rw [R.x.tricks, hmf]
        simp
    obtain ⟨P, eP, p1, p2, p3, p4, p5, p6, p7, p8, p9, p10, p11, p12, p13, p14, p15, p16⟩ := gn
    have out : mOut P ↔ (g.played + 1 = 10 ∨ (g.game = 5 ∧ mine = true)) := by
      unfold mOut
      rw [p9, (R.declared hp).1, p1, hhands, hands_zero wn.base, p14]
      have : (some (g.game : Int) = some 5) ↔ g.game = 5 := by simp; omega
      rw [this]
      have hle := pl.played
      constructor
      · rintro (⟨h5, ht⟩ | h0)
        · refine .inr ⟨h5, ?_⟩
          cases mine with
          | true => rfl
          | false => have := pl.null h5; simp at ht; omega
        · exact .inl (by omega)
      · rintro (h0 | ⟨h5, ht⟩)
        · exact .inr (by omega)
        · exact .inl ⟨h5, by rw [ht]; show ((g.tricks + 1 : Nat) : Int) > 0; omega⟩
    have eE : mEnd (mPut p (c : Int)) j = if mOut P then { P with phase := 7 } else P := by unfold mEnd; rw [eP]
    rw [eE]
    have nch : ov ≠ .choosing := by rw [eo]; split <;> (intro z; cases z)
    have nb : ∀ b l a, ov ≠ .bidding b l a := fun b l a => by rw [eo]; split <;> (intro z; cases z)
    have ngc : g.phase ≠ .choosing := by rw [hp]; intro z; cases z
    have isS : g.alone.isSome = true := by rw [al]; rfl
    have nn : g.alone ≠ none := by rw [al]; intro z; cases z
    by_cases ho : g.played + 1 = 10 ∨ (g.game = 5 ∧ mine = true)
    · rw [if_pos (out.mpr ho)]
      rw [if_pos ho] at eo
      have ephase : (next g c).phase = .over := by rw [e, eo]
      refine ⟨by show P.hands = _; rw [p1, hhands], by show P.away = _; rw [p2, R.away, e], by rw [ephase]; rfl, by show P.bid = _; rw [p4, R.bid, e], by show P.alone = _; rw [p5, R.alone, e], (fun b l a z => by rw [ephase] at z; cases z), (fun _ _ => by show P.fromHand = _; rw [p8, R.fromHand isS ngc, e]), (fun z => ?_), (fun z => by rw [ephase] at z; cases z), ⟨?_, ?_, ?_, (fun z => by rw [ephase] at z; cases z), (fun _ _ => ?_), (fun _ z => ?_), (fun z => by rw [ephase] at z; cases z), (fun _ _ => ⟨⟨?_, ?_⟩, ?_, ?_, ?_, p16⟩)⟩⟩
      · rcases z with z | z
        · rw [e] at z; exact absurd z nn
        · rw [ephase] at z; cases z
      · show P.leader = _; rw [p12, e]
      · show P.trick = _; rw [p13, e]; rfl
      · show P.tricks = _; rw [p14, e]
      · show P.had = _; rw [p11, R.x.had2 isS ngc, e]
      · have := z ephase; rw [e] at this; exact absurd this nn
      · show P.declared = _; rw [p9, (R.declared hp).1, e]
      · show P.said = _; rw [p10, (R.declared hp).2, e]
      · rw [e]; exact M.said
      · show _ = mPts (P.taken ||| P.away)
        rw [p15]
        exact F.pts
      · intro h10
        have h10' : g.tricks + mine.toNat = 10 := by rw [e] at h10; exact h10
        have hle := pl.tricks
        have hpl := pl.played
        have ml : mine.toNat ≤ 1 := by cases mine <;> simp
        have eqs : (next g c).tricks = (next g c).played := by rw [e]; show g.tricks + mine.toNat = g.played + 1; omega
        have l0 : left (next g c) = 0 := by omega
        have hf := (left_zero wn.base.three).mp l0
        rw [F.pts]
        refine mPts_all fun x hx => ?_
        rcases F.all eqs x hx with z | z
        · rw [hf, e] at z; simp at z
        · exact z
    · rw [if_neg (fun z => ho (out.mp z))]
      rw [if_neg ho] at eo
      have ephase : (next g c).phase = .playing := by rw [e, eo]
      refine ⟨by rw [p1, hhands], by rw [p2, R.away, e], by rw [p3, R.phase, ephase, hp], by rw [p4, R.bid, e], by rw [p5, R.alone, e], (fun b l a z => by rw [ephase] at z; cases z), (fun _ _ => by rw [p8, R.fromHand isS ngc, e]), (fun z => ?_), (fun z => ⟨by rw [p9, (R.declared hp).1, e], by rw [p10, (R.declared hp).2, e]⟩), ⟨by rw [p12, e], by rw [p13, e]; rfl, by rw [p14, e], (fun z => by rw [ephase] at z; cases z), (fun _ _ => by rw [p11, R.x.had2 isS ngc, e]), (fun z => absurd ephase z), (fun _ => ⟨by rw [p15]; exact F, by rw [e]; exact M.said, p16⟩), (fun z => by rw [ephase] at z; cases z)⟩⟩
      rcases z with z | z
      · rw [e] at z; exact absurd z nn
      · rw [ephase] at z; cases z
end Tc

/-! The rest of play; result: the program's defs as plain functions against the specification. Plain Lean. -/
namespace Tc
open Rc32

theorem sim_play_no {g : Game} {p : PG} {card : Int} (w : Wf g) (R : Rel g p) (h : p.phase ≠ 6 ∨ mHolds (mNow p) card = false) : play g (natOf card) = none := by
  by_cases hp : g.phase = .playing
  · rcases h with h | h
    · exact absurd (by rw [R.phase, hp]; rfl) h
    · refine play_none fun hm => ?_
      rw [now_mask w R hp, holds_iff (may_hand w)] at h
      have : (may g).contains (natOf card) = true := by simpa using hm
      rw [this] at h; cases h
  · unfold play
    simp only
    rw [if_pos (.inl hp)]
theorem sim_play_yes {g : Game} {p : PG} {card : Int} (w : Wf g) (R : Rel g p) (h6 : p.phase = 6) (h : mHolds (mNow p) card = true) :
    ∃ c : Nat, card = (c : Int) ∧ c = natOf card ∧ c < 32 ∧ g.phase = .playing ∧ c ∈ may g := by
  have hp : g.phase = .playing := by
    rw [R.phase] at h6
    exact phase_playing.mp (by omega)
  rw [now_mask w R hp, holds_iff (may_hand w)] at h
  have hm : natOf card ∈ may g := by simpa using h
  have lt := may_lt w hm
  obtain ⟨h0, h1⟩ := natOf_lt lt (by decide)
  refine ⟨natOf card, ?_, rfl, lt, hp, hm⟩
  unfold natOf
  rw [if_neg (by omega)]
  omega
theorem str_getD {d l c : Nat} (hd : d < 6) (hl : l < 32) (hc : c < 32) : (mStr (d : Nat) (l : Nat)).getD c 0 = ((sK d (kind d l) c : Nat) : Int) := by
  rw [List.getD_eq_getElem?_getD, str_at hd hl hc]
  rfl
theorem place_is {d : Nat} {l : List Nat} {j : Nat} (hd : d < 6) (hl : l.length = 3) (lt : ∀ c ∈ l, c < 32)
    (h : FirstMax ((l.map fun (c : Nat) => (c : Int)).map fun (c : Int) => (mStr (d : Nat) ((l.map fun (c : Nat) => (c : Int)).getD 0 0)).getD c.toNat 0) j) : j = taker d l := by
  obtain ⟨a, b, c, rfl⟩ := three_cases hl
  have ha := lt a (by simp)
  have hb := lt b (by simp)
  have hc := lt c (by simp)
  refine taker_is hd ha hb hc ?_
  have e : (([a, b, c].map fun (c : Nat) => (c : Int)).map fun (x : Int) => (mStr (d : Nat) (([a, b, c].map fun (c : Nat) => (c : Int)).getD 0 0)).getD x.toNat 0) = [((sK d (kind d a) a : Nat) : Int), ((sK d (kind d a) b : Nat) : Int), ((sK d (kind d a) c : Nat) : Int)] := by
    show [(mStr (d : Nat) (a : Nat)).getD a 0, (mStr (d : Nat) (a : Nat)).getD b 0, (mStr (d : Nat) (a : Nat)).getD c 0] = _
    rw [str_getD hd ha ha, str_getD hd ha hb, str_getD hd ha hc]
  rw [e] at h
  exact h

/-! ### what it comes to -/
def bases : List Int := [9, 10, 11, 12, 24, 23]
def mHas (p : PG) (what : Nat) : Bool := decide (p.said.toNat &&& what ≠ 0)
def mWorthNull (p : PG) : Int := if mHas p 4 = true then (if p.fromHand = true then 59 else 46) else if p.fromHand = true then 35 else 23
def mTops (p : PG) (d : Int) : Nat := ((mTrumps d).takeWhile fun c => mHolds p.had c == mHolds p.had ((mTrumps d).getD 0 0)).length
def mMore (p : PG) : List Bool := [p.fromHand, decide (90 ≤ (mPoints p : Int)) || (decide ((mPoints p : Int) ≤ 30) || mHas p 1), mHas p 1, decide (p.tricks = 10) || (decide (p.tricks = 0) || mHas p 2), mHas p 2, mHas p 4]
def mTimes (p : PG) (d : Int) : Int := (mTops p d : Int) + 1 + ((mMore p).count true : Nat)
def mWorth (p : PG) (d : Int) : Int := if d = 5 then mWorthNull p else bases.getD d.toNat 0 * mTimes p d
def mWon (p : PG) (d : Int) : Bool := if d = 5 then decide (p.tricks = 0) else if mHas p 2 = true then decide (p.tricks = 10) else if mHas p 1 = true then decide ((mPoints p : Int) ≥ 90) else decide ((mPoints p : Int) ≥ 61)
def mReck (p : PG) : Int := if p.alone = 3 then 0 else
  if mWorth p (p.declared.getD 0) < p.bid then -2 * ((p.bid + bases.getD (p.declared.getD 0).toNat 0 - 1) / bases.getD (p.declared.getD 0).toNat 0 * bases.getD (p.declared.getD 0).toNat 0)
  else if mWon p (p.declared.getD 0) = true then mWorth p (p.declared.getD 0) else -2 * mWorth p (p.declared.getD 0)
def mResult (p : PG) : List Int := if p.phase ≠ 7 then [-1] else [0, (if mReck p < 0 then -mReck p else mReck p), (if mReck p < 0 then 1 else 0)]

theorem tops_is {g : Game} {p : PG} {d : Nat} (hd : d ≤ 4) (h : p.had = maskOf g.own) : mTops p (d : Nat) = tops d g.own := by
  have e : mTrumps (d : Nat) = (trumps d).map fun (c : Nat) => (c : Int) := by
    have : d = 0 ∨ d = 1 ∨ d = 2 ∨ d = 3 ∨ d = 4 := by omega
    rcases this with z | z | z | z | z <;> subst z <;> decide
  have lt : ∀ c ∈ trumps d, c < 32 := by
    have : d = 0 ∨ d = 1 ∨ d = 2 ∨ d = 3 ∨ d = 4 := by omega
    rcases this with z | z | z | z | z <;> subst z <;> decide
  have hb : ∀ c, c < 32 → mHolds p.had (c : Nat) = g.own.contains c := fun c hc => by
    unfold mHolds
    rw [decide_eq_true (show (0 : Int) ≤ ((c : Nat) : Int) by omega), Bool.true_and, h, Int.toNat_natCast, mask_testBit, decide_eq_true hc, Bool.true_and]
  have e0 : (mTrumps (d : Nat)).getD 0 0 = ((31 : Nat) : Int) := by rw [e]; rfl
  unfold mTops tops
  rw [e0, hb 31 (by decide), e]
  simp only
  have gen : ∀ l : List Nat, (∀ c ∈ l, c < 32) → ((l.map fun (c : Nat) => (c : Int)).takeWhile fun c => mHolds p.had c == g.own.contains 31).length = (l.takeWhile fun c => g.own.contains c == g.own.contains 31).length := by
    intro l
    induction l with
    | nil => intro _; rfl
    | cons a r ih =>
      intro hl
      rw [List.map_cons, List.takeWhile_cons, List.takeWhile_cons, hb a (hl a (List.mem_cons_self ..))]
      split
      · rw [List.length_cons, List.length_cons, ih fun c hc => hl c (List.mem_cons_of_mem _ hc)]
      · rfl
  exact gen _ lt
theorem said_cases {b : Bool} {d s : Nat} (h : sayable b d s = true) : s = 0 ∨ (d = 5 ∧ s = 4) ∨ (d ≠ 5 ∧ (s = 1 ∨ s = 3 ∨ s = 7)) := by
  unfold sayable at h
  by_cases h5 : d = 5
  · rw [if_pos h5] at h
    simp at h
    rcases h with h | h
    · exact .inl h
    · exact .inr (.inl ⟨h5, h⟩)
  · rw [if_neg h5] at h
    split at h
    · simp at h
      exact .inl h
    · simp at h
      omega
theorem has_is {p : PG} {s : Nat} (e : p.said = (s : Int)) (hs : s = 0 ∨ s = 1 ∨ s = 3 ∨ s = 4 ∨ s = 7) : mHas p 1 = (s % 2 == 1) ∧ mHas p 2 = (s / 2 % 2 == 1) ∧ mHas p 4 = (s / 4 % 2 == 1) := by
  unfold mHas
  rw [e, Int.toNat_natCast]
  rcases hs with h | h | h | h | h <;> subst h <;> decide
theorem reck_is {g : Game} {p : PG} (w : Wf g) (R : Rel g p) (hp : g.phase = .over) : mReck p = result g := by
  have wp := w.ph
  unfold PhOk at wp
  rw [hp] at wp
  unfold mReck result
  rcases wp with ⟨al, _⟩ | ⟨⟨q, hq, al⟩, g5, _, _, _⟩
  · have ea : p.alone = 3 := by rw [R.alone, al]; rfl
    rw [if_pos ea, al]
    rfl
  · have ea : ¬ p.alone = 3 := by
      rw [R.alone, al]
      show ¬ (q : Int) = 3
      omega
    have E := R.x.over hp (by rw [al]; intro z; cases z)
    have ed : p.declared.getD 0 = (g.game : Int) := by rw [E.declared.1]; rfl
    have nc : g.phase ≠ .choosing := by rw [hp]; intro z; cases z
    have had := R.x.had2 (by rw [al]; rfl) nc
    have fh := R.fromHand (by rw [al]; rfl) nc
    have sc := said_cases E.said
    obtain ⟨h1, h2, h4⟩ := has_is E.declared.2 (by omega)
    have etr := R.x.tricks
    have ept : mPoints p = g.points := E.pts.symm
    rw [if_neg ea, ed, R.bid, if_neg (show ¬ g.alone.isNone = true by rw [al]; simp), Int.toNat_natCast]
    by_cases h5 : g.game = 5
    · rw [if_pos h5, h5]
      have ew : mWorth p (5 : Nat) = (nullWorth g.byHand g.said : Int) := by
        unfold mWorth
        rw [if_pos (by rfl)]
        unfold mWorthNull nullWorth
        rw [h4, fh]
        rcases sc with z | z | z
        · rw [z]; cases g.byHand <;> rfl
        · rw [z.2]; cases g.byHand <;> rfl
        · exact absurd h5 z.1
      rw [ew]
      have eb : bases.getD 5 0 = 23 := rfl
      have ewon : mWon p (5 : Nat) = decide (g.tricks = 0) := by
        unfold mWon
        rw [if_pos (by rfl), etr]
        congr 1
        simp
      rw [eb, ewon]
      simp only
      by_cases hb : g.bid ≤ nullWorth g.byHand g.said
      · rw [if_neg (by omega)]
        by_cases ht : g.tricks = 0
        · rw [if_pos (by simpa using ht), if_pos ⟨ht, hb⟩]
        · rw [if_neg (by simpa using ht), if_neg (fun z => ht z.1), if_pos hb]
      · rw [if_pos (by omega), if_neg (fun z => hb z.2), if_neg hb]
        have : (g.bid : Int) + 23 - 1 = ((g.bid + 22 : Nat) : Int) := by omega
        rw [this]
        omega
    · have g4 : g.game ≤ 4 := by omega
      rw [if_neg h5]
      have eb : bases.getD g.game 0 = (base g.game : Int) ∧ 0 < base g.game := by
        have : g.game = 0 ∨ g.game = 1 ∨ g.game = 2 ∨ g.game = 3 ∨ g.game = 4 := by omega
        rcases this with z | z | z | z | z <;> rw [z] <;> decide
      have et : mTimes p (g.game : Nat) = (often g g.points g.tricks : Int) := by
        unfold mTimes often mMore
        rw [tops_is g4 had, h1, h2, h4, fh, ept, etr]
        have d1 : decide (90 ≤ (g.points : Int)) = decide (90 ≤ g.points) := by congr 1; simp; omega
        have d2 : decide ((g.points : Int) ≤ 30) = decide (g.points ≤ 30) := by congr 1; simp; omega
        have d3 : decide ((g.tricks : Int) = 10) = decide (g.tricks = 10) := by congr 1; simp; omega
        have d4 : decide ((g.tricks : Int) = 0) = decide (g.tricks = 0) := by congr 1; simp
        rw [d1, d2, d3, d4, Bool.decide_or, Bool.decide_or]
        have key : ∀ (a b c d e : Bool) (t s : Nat), (s = 0 ∨ s = 1 ∨ s = 3 ∨ s = 7) → ((t : Int) + 1 + (([a, b || (c || s % 2 == 1), s % 2 == 1, d || (e || s / 2 % 2 == 1), s / 2 % 2 == 1, s / 4 % 2 == 1].count true : Nat) : Int)) = ((t + 1 + a.toNat + ((b || c) || s % 2 == 1).toNat + s % 2 + ((d || e) || s / 2 % 2 == 1).toNat + s / 2 % 2 + s / 4 % 2 : Nat) : Int) := by
          intro a b c d e t s hs
          have cnt : ∀ l : List Bool, (true :: l).count true = l.count true + 1 := fun l => List.count_cons_self
          have cnf : ∀ l : List Bool, (false :: l).count true = l.count true := fun l => List.count_cons_of_ne (by decide)
          rcases hs with h | h | h | h <;> subst h <;> cases a <;> cases b <;> cases c <;> cases d <;> cases e <;> simp [List.count_cons] <;> omega
        exact key _ _ _ _ _ _ _ (by omega)
      have ew : mWorth p (g.game : Nat) = ((base g.game * often g g.points g.tricks : Nat) : Int) := by
        unfold mWorth
        rw [if_neg (by omega), Int.toNat_natCast, eb.1, et]
        simp
      rw [ew]
      have ewon : mWon p (g.game : Nat) = (decide (61 ≤ g.points) && ((g.said % 2 == 0 || decide (90 ≤ g.points)) && (g.said / 2 % 2 == 0 || g.tricks == 10))) := by
        unfold mWon
        rw [if_neg (by omega), h1, h2, ept, etr]
        have all := E.all
        have d3 : decide ((g.tricks : Int) = 10) = decide (g.tricks = 10) := by congr 1; simp; omega
        have d1 : decide ((g.points : Int) ≥ 90) = decide (90 ≤ g.points) := by congr 1; simp; omega
        have d2 : decide ((g.points : Int) ≥ 61) = decide (61 ≤ g.points) := by congr 1; simp; omega
        rw [d3, d1, d2]
        have hs : g.said = 0 ∨ g.said = 1 ∨ g.said = 3 ∨ g.said = 7 := by omega
        rcases hs with h | h | h | h <;> rw [h] <;> by_cases h9 : 90 ≤ g.points <;> by_cases h6 : 61 ≤ g.points <;> by_cases ht : g.tricks = 10 <;> simp [h9, h6, ht] <;> omega
      rw [ewon, eb.1]
      simp only
      by_cases hb : g.bid ≤ base g.game * often g g.points g.tricks
      · rw [if_neg (by omega), if_pos hb]
      · rw [if_pos (by omega), if_neg hb]
        have e1 : (g.bid : Int) + (base g.game : Int) - 1 = ((g.bid + base g.game - 1 : Nat) : Int) := by have := eb.2; omega
        rw [e1]
        push_cast
        rfl
theorem sim_result {g : Game} {p : PG} (w : Wf g) (R : Rel g p) : (g.phase ≠ .over → mResult p = [-1]) ∧ (g.phase = .over → mResult p = [0, ((result g).natAbs : Int), ((decide (result g < 0)).toNat : Int)]) := by
  unfold mResult
  refine ⟨fun h => if_pos (by rw [R.phase]; intro z; exact h (phase_over.mp (by omega))), fun h => ?_⟩
  rw [if_neg (by rw [R.phase, h]; decide), reck_is w R h]
  by_cases hn : result g < 0
  · rw [if_pos hn, if_pos hn, decide_eq_true hn]
    have : -result g = ((result g).natAbs : Int) := by omega
    rw [this]
    rfl
  · rw [if_neg hn, if_neg hn, decide_eq_false hn]
    have : result g = ((result g).natAbs : Int) := by omega
    rw [← this]
    rfl
end Tc

/-! Endings played out with bounds: what a bounded look ahead tells, step by step. Plain Lean. -/
namespace Tc
open Rc32

/-- what is still to come, b points had -/
def toGo (b f : Nat) (k : Game) : Int := if k.game = 5 then (sure f k : Int) else (sure f k : Int) - (b : Int)
/-- a bounded answer: exact between the bounds, else a bound -/
structure Res (low high val r : Int) : Prop where
  lo : low < r → r ≤ val
  hi : r < high → val ≤ r
theorem Res.exact {low high v : Int} : Res low high v v := ⟨fun _ => Int.le_refl _, fun _ => Int.le_refl _⟩
theorem Res.shift {low high val r g : Int} (h : Res (low - g) (high - g) val r) : Res low high (g + val) (g + r) := ⟨fun z => by have := h.lo (by omega); omega, fun z => by have := h.hi (by omega); omega⟩
theorem next_game {g : Game} {c : Nat} (hp : g.phase = .playing) (hc : c ∈ may g) : (next g c).game = g.game ∧ (next g c).alone = g.alone ∧ (next g c).hands = drop g (turn g) c := by
  rcases next_cases hp hc with ⟨_, e⟩ | ⟨_, _, _, _, _, _, _, e⟩ <;> rw [e] <;> exact ⟨rfl, rfl, rfl⟩
theorem go_max {f : Nat} {g : Game} (w : Wf g) (hp : g.phase = .playing) (ha : g.alone = some (turn g)) :
    (∃ c, c ∈ may g ∧ toGo g.points (f + 1) g = toGo g.points f (next g c)) ∧ ∀ c, c ∈ may g → toGo g.points f (next g c) ≤ toGo g.points (f + 1) g := by
  obtain ⟨⟨c, hc, e⟩, le⟩ := sure_max (f := f) w hp ha
  unfold toGo
  refine ⟨⟨c, hc, by rw [(next_game hp hc).1, e]⟩, fun d hd => ?_⟩
  have := le d hd
  rw [(next_game hp hd).1]
  split <;> omega
theorem go_min {f : Nat} {g : Game} (w : Wf g) (hp : g.phase = .playing) (ha : g.alone ≠ some (turn g)) :
    (∃ c, c ∈ may g ∧ toGo g.points (f + 1) g = toGo g.points f (next g c)) ∧ ∀ c, c ∈ may g → toGo g.points (f + 1) g ≤ toGo g.points f (next g c) := by
  obtain ⟨⟨c, hc, e⟩, le⟩ := sure_min (f := f) w hp ha
  unfold toGo
  refine ⟨⟨c, hc, by rw [(next_game hp hc).1, e]⟩, fun d hd => ?_⟩
  have := le d hd
  rw [(next_game hp hd).1]
  split <;> omega
/-! ### one card more -/
/-- the one who plays alone: what the loop has found so far -/
structure MaxI (low0 high val best low : Int) (seen : List Int) : Prop where
  is : low = low0 ∨ low = best
  lt : low < high
  A : low0 < best → best ≤ val
  B : best < high → ∀ x ∈ seen, x ≤ best
theorem MaxI.start {low0 high val : Int} (h : low0 < high) (hv : 0 ≤ val) : MaxI low0 high val 0 low0 [] := ⟨.inl rfl, h, fun _ => hv, fun _ x hx => by simp at hx⟩
theorem MaxI.step {low0 high val best low r x : Int} {seen : List Int} (I : MaxI low0 high val best low seen) (hr : Res low high x r) (hx : x ≤ val) {b l : Int} (hb : b = if r > best then r else best) (hl : l = if b > low then b else low) :
    (l ≥ high → Res low0 high val b) ∧ (¬ l ≥ high → MaxI low0 high val b l (seen ++ [x])) := by
  obtain ⟨is, lt, A, B⟩ := I
  obtain ⟨h1, h2⟩ := hr
  have A' : low0 < b → b ≤ val := fun z => by
    split at hb
    · have := h1 (by omega); omega
    · rw [hb] at z ⊢; exact A z
  have bb : best ≤ b ∧ r ≤ b := by split at hb <;> omega
  refine ⟨fun z => ⟨A', fun y => ?_⟩, fun z => ⟨?_, by omega, A', fun y v hv => ?_⟩⟩
  · split at hl <;> omega
  · split at hl
    · exact .inr hl
    · rcases is with e | e
      · exact .inl (by omega)
      · exact .inr (by omega)
  · rcases List.mem_append.mp hv with q | q
    · have := B (by omega) v q; omega
    · simp at q
      have := h2 (by omega)
      omega
theorem MaxI.done {low0 high val best low : Int} {seen : List Int} (I : MaxI low0 high val best low seen) (h : val ∈ seen) : Res low0 high val best := ⟨I.A, fun z => I.B z val h⟩
/-- the others -/
structure MinI (low high0 val best high : Int) (seen : List Int) : Prop where
  is : high = high0 ∨ high = best
  lt : low < high
  A : best < high0 → val ≤ best
  B : low < best → ∀ x ∈ seen, best ≤ x
theorem MinI.start {low high0 val most : Int} (h : low < high0) (hm : high0 ≤ most) : MinI low high0 val most high0 [] := ⟨.inl rfl, h, fun z => by omega, fun _ x hx => by simp at hx⟩
theorem MinI.step {low high0 val best high r x : Int} {seen : List Int} (I : MinI low high0 val best high seen) (hr : Res low high x r) (hx : val ≤ x) {b l : Int} (hb : b = if r < best then r else best) (hl : l = if b < high then b else high) :
    (low ≥ l → Res low high0 val b) ∧ (¬ low ≥ l → MinI low high0 val b l (seen ++ [x])) := by
  obtain ⟨is, lt, A, B⟩ := I
  obtain ⟨h1, h2⟩ := hr
  have A' : b < high0 → val ≤ b := fun z => by
    split at hb
    · have := h2 (by omega); omega
    · rw [hb] at z ⊢; exact A z
  have bb : b ≤ best ∧ b ≤ r := by split at hb <;> omega
  refine ⟨fun z => ⟨fun y => ?_, A'⟩, fun z => ⟨?_, by omega, A', fun y v hv => ?_⟩⟩
  · split at hl <;> omega
  · split at hl
    · exact .inr hl
    · rcases is with e | e
      · exact .inl (by omega)
      · exact .inr (by omega)
  · rcases List.mem_append.mp hv with q | q
    · have := B (by omega) v q; omega
    · simp at q
      have := h1 (by omega)
      omega
theorem MinI.done {low high0 val best high : Int} {seen : List Int} (I : MinI low high0 val best high seen) (h : val ∈ seen) : Res low high0 val best := ⟨fun z => I.B z val h, I.A⟩
/-! ### where a game stands, told by masks -/
/-- h0: the hands when the look ahead began; lf: the cards left -/
structure At (d a : Nat) (h0 : List Nat) (lf : Nat) (g : Game) : Prop where
  wf : Wf g
  game : g.game = d
  alone : g.alone = some a
  left : lf = maskOf g.hands.flatten
  masks : ∀ q, q < 3 → h0.getD q 0 &&& lf = maskOf (hand g q)
theorem Base.flat {g : Game} (b : Base g) : Hand g.hands.flatten := ⟨fun c hc => b.lt c (List.mem_append_left _ hc), (List.nodup_append.mp b.nd).1⟩
theorem left_flat {g : Game} : left g = g.hands.flatten.length := by unfold left; rw [List.length_flatten]
theorem at_len {d a lf : Nat} {h0 : List Nat} {g : Game} (A : At d a h0 lf g) : (mCards lf).length = left g := by
  rw [A.left, A.wf.base.flat.cards.length_eq, left_flat]
theorem at_zero {d a lf : Nat} {h0 : List Nat} {g : Game} (A : At d a h0 lf g) : lf = 0 ↔ left g = 0 := by
  rw [A.left, mask_zero A.wf.base.flat, left_zero A.wf.base.three]
theorem in_hand_only {g : Game} (b : Base g) {p q c : Nat} (hp : p < 3) (hq : q < 3) (h1 : c ∈ hand g p) (h2 : c ∈ hand g q) : p = q := by
  obtain ⟨x, y, z, e⟩ := three_cases b.three
  have nd := b.flat.nd
  unfold hand at h1 h2
  rw [e] at h1 h2 nd
  have nd1 : (x ++ (y ++ z)).Nodup := by simpa using nd
  obtain ⟨_, n2, n3⟩ := List.nodup_append.mp nd1
  obtain ⟨_, _, n6⟩ := List.nodup_append.mp n2
  have hp' : p = 0 ∨ p = 1 ∨ p = 2 := by omega
  have hq' : q = 0 ∨ q = 1 ∨ q = 2 := by omega
  rcases hp' with r | r | r <;> rcases hq' with s | s | s <;> subst r <;> subst s <;> simp only [List.getD_cons_zero, List.getD_cons_succ] at h1 h2
  · rfl
  · exact absurd rfl (n3 c h1 c (List.mem_append_left _ h2))
  · exact absurd rfl (n3 c h1 c (List.mem_append_right _ h2))
  · exact absurd rfl (n3 c h2 c (List.mem_append_left _ h1))
  · rfl
  · exact absurd rfl (n6 c h1 c h2)
  · exact absurd rfl (n3 c h2 c (List.mem_append_right _ h1))
  · exact absurd rfl (n6 c h2 c h1)
  · rfl
theorem at_next {d a lf c : Nat} {h0 : List Nat} {g : Game} (A : At d a h0 lf g) (hp : g.phase = .playing) (hc : c ∈ may g) : At d a h0 (lf ^^^ 2 ^ c) (next g c) := by
  obtain ⟨e1, e2, e3⟩ := next_game hp hc
  have w := A.wf
  have b := w.base
  have hm := legal_mem hc
  have tl := turn_lt hp
  have c32 := may_lt w hc
  have P := perm_drop b.three tl b.flat.nd hm
  have nb := (wf_next w hp hc).base
  have bit : lf.testBit c = true := by
    rw [A.left]
    exact (b.flat.mem_iff c).mpr (hand_mem hm)
  have nin : c ∉ (drop g (turn g) c).flatten := fun z => by
    have := P.nodup_iff.mpr b.flat.nd
    exact (List.nodup_append.mp this).2.2 c z c (by simp) rfl
  refine ⟨wf_next w hp hc, e1.trans A.game, e2.trans A.alone, ?_, fun q hq => ?_⟩
  · have hf := nb.flat
    rw [e3] at hf ⊢
    refine hf.of_bits fun x => ?_
    rw [Nat.testBit_xor, Nat.testBit_two_pow, A.left, b.flat.testBit, List.contains_eq_mem, List.contains_eq_mem]
    have hx := P.mem_iff (a := x)
    rw [List.mem_append, List.mem_singleton] at hx
    by_cases e : x = c
    · subst e
      simp [nin, hand_mem hm]
    · have e' : ¬ c = x := fun z => e z.symm
      simp [e, e'] at hx ⊢
      exact hx.symm
  · have hh := nb.hand q
    refine hh.of_bits fun x => ?_
    have hx := hand_drop b.three tl (k := next g c) e3 q x
    have old : (h0.getD q 0 &&& lf).testBit x = (hand g q).contains x := by rw [A.masks q hq, (b.hand q).testBit]
    rw [Nat.testBit_and] at old
    rw [Nat.testBit_and, Nat.testBit_xor, Nat.testBit_two_pow]
    rw [List.contains_eq_mem] at old ⊢
    by_cases e : c = x
    · subst e
      rw [bit]
      by_cases hq2 : q = turn g
      · have : c ∉ hand (next g c) q := fun z => (hx.mp z).2 ⟨hq2, rfl⟩
        simp [this]
      · have n1 : c ∉ hand g q := fun z => hq2 (in_hand_only b hq tl z hm)
        have : c ∉ hand (next g c) q := fun z => n1 (hx.mp z).1
        simp [this]
    · have e' : ¬ x = c := fun z => e z.symm
      have : (x ∈ hand (next g c) q) ↔ x ∈ hand g q := hx.trans ⟨fun z => z.1, fun z => ⟨z, fun y => e' y.2⟩⟩
      simp only [e, decide_false, Bool.xor_false, this]
      exact old
theorem at_mask {d a lf : Nat} {h0 : List Nat} {g : Game} (A : At d a h0 lf g) (hp : g.phase = .playing) : mPlayableIn (d : Nat) (h0.getD (turn g) 0 &&& lf) (g.trick.map fun (c : Nat) => (c : Int)) = maskOf (may g) := by
  obtain ⟨_, pl⟩ := A.wf.playing hp
  rw [A.masks _ (turn_lt hp)]
  have hd : d < 6 := by rw [← A.game]; have := pl.game; omega
  have := playableIn_mask (trick := g.trick) (A.wf.base.hand (turn g)) hd pl.cards
  unfold may
  rw [A.game]
  exact this
/-- TWO GAMES that stand alike ahead of a trick have the same to come -/
theorem at_same {d a lf : Nat} {h0 : List Nat} {g k : Game} (A : At d a h0 lf g) (B : At d a h0 lf k) (hg : g.phase = .playing) (hk : k.phase = .playing) (tg : g.trick = []) (tk : k.trick = []) (hl : k.lead = g.lead) :
    toGo k.points (left k) k = toGo g.points (left g) g := by
  have el : left k = left g := by rw [← at_len A, ← at_len B]
  have l1 := left_eq A.wf hg
  have l2 := left_eq B.wf hk
  rw [tg] at l1
  rw [tk] at l2
  have al : Alike g k := by
    refine ⟨B.game.trans A.game.symm, B.alone.trans A.alone.symm, hk.trans hg.symm, tk.trans tg.symm, hl, by simp at l1 l2; omega, fun h5 => ?_, fun p c => ?_⟩
    · rw [(A.wf.playing hg).2.null h5, (B.wf.playing hk).2.null (B.game.trans (A.game.symm.trans h5))]
    · by_cases hp : p < 3
      · rw [← (A.wf.base.hand p).mem_iff, ← (B.wf.base.hand p).mem_iff, ← A.masks p hp, ← B.masks p hp]
      · unfold hand
        rw [List.getD_eq_getElem?_getD, List.getD_eq_getElem?_getD, List.getElem?_eq_none (by rw [B.wf.base.three]; omega), List.getElem?_eq_none (by rw [A.wf.base.three]; omega)]
  have s := alike_sure (left g) A.wf B.wf al (.inl hg)
  rw [el]
  unfold toGo
  rw [B.game, A.game]
  rw [A.game] at s
  by_cases h5 : d = 5
  · rw [if_pos h5, if_pos h5, s.1 h5]
  · rw [if_neg h5, if_neg h5]
    have := s.2 h5
    omega
/-! ### behind a whole trick -/
def mostOf (d : Nat) : Int := if d = 5 then 1 else 120
theorem toGo_nonneg {f : Nat} : ∀ {g : Game}, g.phase = .playing ∨ g.phase = .over → Wf g → 0 ≤ toGo g.points f g := by
  induction f with
  | zero =>
    intro g _ _
    unfold toGo
    rw [sure_zero]
    unfold worth
    split
    · split <;> omega
    · omega
  | succ f ih =>
    intro g hp w
    by_cases h : g.phase = .playing
    · have mono : ∀ c ∈ may g, 0 ≤ toGo g.points f (next g c) := fun c hc => by
        have h1 := ih (next_phase h hc) (wf_next w h hc)
        have : g.points ≤ (next g c).points := by
          rcases next_cases h hc with ⟨_, e⟩ | ⟨_, _, _, _, _, _, _, e⟩ <;> rw [e]
          · exact Nat.le_refl _
          · exact Nat.le_add_right _ _
        unfold toGo at h1 ⊢
        split at h1 <;> rename_i q <;> first | rw [if_pos q] | rw [if_neg q]
        · exact h1
        · omega
      by_cases ha : g.alone = some (turn g)
      · obtain ⟨⟨c, hc, e⟩, _⟩ := go_max (f := f) w h ha
        rw [e]; exact mono c hc
      · obtain ⟨⟨c, hc, e⟩, _⟩ := go_min (f := f) w h ha
        rw [e]; exact mono c hc
    · unfold toGo
      rw [sure_end h]
      unfold worth
      split
      · split <;> omega
      · omega
/-- the card that ends a trick: who takes it, and what then is to come -/
theorem at_trick {d a lf c : Nat} {h0 : List Nat} {g : Game} (A : At d a h0 lf g) (hp : g.phase = .playing) (hc : c ∈ may g) (hl : ¬ g.trick.length < 2) {k : Nat} (ek : k = (g.lead + taker d (g.trick ++ [c])) % 3) :
    (next g c).trick = [] ∧ (next g c).lead = k ∧
    (k ≠ a → toGo g.points (left g - 1) (next g c) = toGo (next g c).points (left (next g c)) (next g c) ∧ ((next g c).phase = .playing ∨ (left (next g c) = 0 ∧ (next g c).phase = .over ∧ (d = 5 → (next g c).tricks = 0)))) ∧
    (k = a → d = 5 → toGo g.points (left g - 1) (next g c) = 0) ∧
    (k = a → d ≠ 5 → toGo g.points (left g - 1) (next g c) = (((g.trick ++ [c]).map points).sum : Int) + toGo (next g c).points (left (next g c)) (next g c) ∧ ((next g c).phase = .playing ∨ (left (next g c) = 0 ∧ (next g c).phase = .over))) := by
  have ln := left_next A.wf hp hc
  have le := left_eq A.wf hp
  obtain ⟨_, pl⟩ := A.wf.playing hp
  have t2 : g.trick.length = 2 := by have := pl.trick; omega
  have ef : left g - 1 = left (next g c) := by omega
  rw [ef]
  rcases next_cases hp hc with ⟨l1, _⟩ | ⟨_, k', mine, ov, ek', em, eo, e⟩
  · exact absurd l1 hl
  · rw [A.game] at ek'
    obtain rfl : k' = k := ek'.trans ek.symm
    have emine : mine = true ↔ k' = a := by rw [em, A.alone]; simp; exact eq_comm
    have hg : (next g c).game = d := (next_game hp hc).1.trans A.game
    have hpts : (next g c).points = g.points + (if mine = true then ((g.trick ++ [c]).map points).sum else 0) := by rw [e]
    have hph : (next g c).phase = ov := by rw [e]
    refine ⟨by rw [e], by rw [e], fun ne => ?_, fun eq h5 => ?_, fun eq h5 => ?_⟩
    · have mf : ¬ mine = true := fun z => ne (emine.mp z)
      rw [if_neg mf, Nat.add_zero] at hpts
      refine ⟨by rw [hpts], ?_⟩
      by_cases ho : g.played + 1 = 10 ∨ (g.game = 5 ∧ mine = true)
      · rw [if_pos ho] at eo
        refine .inr ⟨?_, hph.trans eo, fun h5 => ?_⟩
        · rcases ho with ho | ho
          · omega
          · exact absurd ho.2 mf
        · have mff : mine = false := by cases mine with | false => rfl | true => exact absurd rfl mf
          have : (next g c).tricks = g.tricks := by rw [e, mff]; rfl
          rw [this]
          exact pl.null (A.game.trans h5)
      · rw [if_neg ho] at eo
        exact .inl (hph.trans eo)
    · have mt := emine.mpr eq
      rw [if_pos (.inr ⟨A.game.trans h5, mt⟩)] at eo
      unfold toGo
      rw [hg, if_pos h5, sure_end (by rw [hph, eo]; intro z; cases z)]
      unfold worth
      rw [hg, if_pos h5, if_neg]
      · rfl
      · rw [e, mt]
        show ¬ g.tricks + 1 = 0
        omega
    · have mt := emine.mpr eq
      rw [if_pos mt] at hpts
      refine ⟨?_, ?_⟩
      · unfold toGo
        rw [hg, if_neg h5, if_neg h5, hpts]
        push_cast
        omega
      · by_cases ho : g.played + 1 = 10 ∨ (g.game = 5 ∧ mine = true)
        · rw [if_pos ho] at eo
          refine .inr ⟨?_, hph.trans eo⟩
          rcases ho with ho | ho
          · omega
          · exact absurd (A.game.symm.trans ho.1) h5
        · rw [if_neg ho] at eo
          exact .inl (hph.trans eo)
/-- nothing is left -/
theorem toGo_over {k : Game} (h : k.phase = .over) (h5 : k.game = 5 → k.tricks = 0) : toGo k.points (left k) k = if k.game = 5 then 1 else 0 := by
  unfold toGo
  rw [sure_end (by rw [h]; intro z; cases z)]
  unfold worth
  split
  · rename_i q
    rw [if_pos (h5 q)]
    rfl
  · omega
/-! ### bounds that are kept -/
/-- what is kept for a set of cards and who leads -/
def Sound (d a : Nat) (h0 : List Nat) (lf lead : Nat) (fl rf : Int) : Prop := ∀ k : Game, At d a h0 lf k → k.phase = .playing → k.trick = [] → k.lead = lead → fl ≤ toGo k.points (left k) k ∧ (toGo k.points (left k) k ≤ rf ∨ rf = mostOf d)
theorem sound_none {d a lf lead : Nat} {h0 : List Nat} : Sound d a h0 lf lead 0 (mostOf d) := fun k A hp _ _ => ⟨toGo_nonneg (.inl hp) A.wf, .inr rfl⟩
theorem sound_use {d a lf lead : Nat} {h0 : List Nat} {fl rf low high : Int} {k : Game} (S : Sound d a h0 lf lead fl rf) (A : At d a h0 lf k) (hp : k.phase = .playing) (ht : k.trick = []) (hl : k.lead = lead) (lh : low < high) (hm : high ≤ mostOf d) :
    (fl ≥ high ∨ fl = rf → Res low high (toGo k.points (left k) k) fl) ∧ (rf ≤ low → Res low high (toGo k.points (left k) k) rf) := by
  obtain ⟨s1, s2⟩ := S k A hp ht hl
  refine ⟨fun h => ⟨fun _ => s1, fun z => ?_⟩, fun h => ⟨fun z => by omega, fun z => ?_⟩⟩
  · rcases h with h | h
    · omega
    · rcases s2 with y | y <;> omega
  · rcases s2 with y | y <;> omega
theorem sound_put {d a lf lead : Nat} {h0 : List Nat} {fl rf low high best : Int} {k : Game} (S : Sound d a h0 lf lead fl rf) (A : At d a h0 lf k) (hp : k.phase = .playing) (ht : k.trick = []) (hl : k.lead = lead) (R : Res low high (toGo k.points (left k) k) best) :
    Sound d a h0 lf lead (if best > low then best else fl) (if best < high then best else rf) := by
  intro k' A' hp' ht' hl'
  have e := at_same A A' hp hp' ht ht' (hl'.trans hl.symm)
  obtain ⟨s1, s2⟩ := S k' A' hp' ht' hl'
  rw [e] at s1 s2 ⊢
  refine ⟨?_, ?_⟩
  · split
    · exact R.lo (by omega)
    · exact s1
  · split
    · exact .inl (R.hi (by omega))
    · exact s2
/-- at the root the bounds are all that can be -/
theorem root_is {d a lf : Nat} {h0 : List Nat} {g : Game} {S : Nat} {r : Int} (A : At d a h0 lf g) (hp : g.phase = .playing) (F : Fit g S) (R : Res 0 (mostOf d) (toGo g.points (left g) g) r) : r = toGo g.points (left g) g := by
  have h0 := toGo_nonneg (f := left g) (.inl hp) A.wf
  have hm : toGo g.points (left g) g ≤ mostOf d := by
    unfold toGo mostOf
    rw [A.game]
    by_cases h5 : d = 5
    · rw [if_pos h5, if_pos h5]
      have : ∀ f (k : Game), Wf k → k.game = 5 → (k.phase = .playing ∨ k.phase = .over) → sure f k ≤ 1 := by
        intro f
        induction f with
        | zero =>
          intro k _ h _
          rw [sure_zero]; unfold worth; rw [if_pos h]; split <;> omega
        | succ f ih =>
          intro k w h hk
          by_cases hh : k.phase = .playing
          · by_cases ha : k.alone = some (turn k)
            · obtain ⟨⟨c, hc, e⟩, _⟩ := sure_max (f := f) w hh ha
              rw [e]; exact ih _ (wf_next w hh hc) ((next_game hh hc).1.trans h) (next_phase hh hc)
            · obtain ⟨⟨c, hc, e⟩, _⟩ := sure_min (f := f) w hh ha
              rw [e]; exact ih _ (wf_next w hh hc) ((next_game hh hc).1.trans h) (next_phase hh hc)
          · rw [sure_end hh]; unfold worth; rw [if_pos h]; split <;> omega
      have := this (left g) g A.wf (A.game.trans h5) (.inl hp)
      omega
    · rw [if_neg h5, if_neg h5]
      have := sure_120 (left g) A.wf (.inl hp) F (by rw [A.game]; exact h5)
      omega
  have hmp : 0 < mostOf d := by unfold mostOf; split <;> decide
  have l := R.lo
  have h := R.hi
  generalize toGo g.points (left g) g = v at *
  by_cases c1 : r < mostOf d
  · have := h c1
    by_cases c0 : 0 < r
    · have := l c0; omega
    · omega
  · have := l (by omega); omega
/-! ### how many bounds can be kept -/
def subs : List Nat → List Nat
  | [] => [0]
  | c :: r => subs r ++ (subs r).map fun m => 2 ^ c ||| m
theorem subs_len : ∀ l : List Nat, (subs l).length = 2 ^ l.length
  | [] => rfl
  | c :: r => by rw [subs, List.length_append, List.length_map, subs_len r, List.length_cons, Nat.pow_succ]; omega
theorem subs_mem : ∀ (l : List Nat) (m : Nat), (∀ c, m.testBit c = true → c ∈ l) → m ∈ subs l
  | [], m, h => by
    have : m = 0 := Nat.eq_of_testBit_eq fun c => by
      cases q : m.testBit c with
      | true => exact absurd (h c q) (by simp)
      | false => simp
    rw [this]; simp [subs]
  | c :: r, m, h => by
    unfold subs
    rw [List.mem_append, List.mem_map]
    by_cases hc : c ∈ r
    · exact .inl (subs_mem r m fun x hx => by
        rcases List.mem_cons.mp (h x hx) with e | e
        · rw [e]; exact hc
        · exact e)
    · cases q : m.testBit c with
      | false => exact .inl (subs_mem r m fun x hx => by
          rcases List.mem_cons.mp (h x hx) with e | e
          · rw [e, q] at hx; cases hx
          · exact e)
      | true =>
        refine .inr ⟨m ^^^ 2 ^ c, subs_mem r _ fun x hx => ?_, ?_⟩
        · rw [Nat.testBit_xor, Nat.testBit_two_pow] at hx
          by_cases e : c = x
          · subst e; rw [q] at hx; simp at hx
          · simp [e] at hx
            rcases List.mem_cons.mp (h x hx) with y | y
            · exact absurd y.symm e
            · exact y
        · refine Nat.eq_of_testBit_eq fun x => ?_
          rw [Nat.testBit_or, Nat.testBit_xor, Nat.testBit_two_pow]
          by_cases e : c = x
          · subst e; simp [q]
          · simp [e]
theorem nodup_len {α : Type} [DecidableEq α] : ∀ {a b : List α}, a.Nodup → (∀ x ∈ a, x ∈ b) → a.length ≤ b.length
  | [], b, _, _ => Nat.zero_le _
  | x :: r, b, nd, h => by
    obtain ⟨n1, n2⟩ := List.nodup_cons.mp nd
    have hx := h x (List.mem_cons_self ..)
    have p := (List.perm_cons_erase hx).length_eq
    have := nodup_len (b := b.erase x) n2 fun y hy => (List.mem_erase_of_ne (fun e => n1 (by rw [← e]; exact hy))).mpr (h y (List.mem_cons_of_mem _ hy))
    rw [List.length_cons] at p ⊢
    omega
/-- the keys that a look ahead from the cards L can keep -/
def keysOf (L : Nat) : List (Nat × Nat) := (subs (mCards L)).flatMap fun m => [(m, 0), (m, 1), (m, 2)]
theorem keysOf_len (L : Nat) (h : (mCards L).length ≤ 15) : (keysOf L).length ≤ 98304 := by
  unfold keysOf
  rw [List.length_flatMap]
  have : ((subs (mCards L)).map fun m => [(m, 0), (m, 1), (m, 2)].length).sum = 3 * (subs (mCards L)).length := by
    generalize subs (mCards L) = l
    induction l with
    | nil => rfl
    | cons x r ih => rw [List.map_cons, List.sum_cons, ih, List.length_cons]; simp; omega
  rw [this, subs_len]
  have := Nat.pow_le_pow_right (n := 2) (by decide) h
  omega
theorem keysOf_mem {L m lead : Nat} (hL : L < 2 ^ 32) (hm : ∀ c, m.testBit c = true → L.testBit c = true) (hl : lead < 3) : (m, lead) ∈ keysOf L := by
  unfold keysOf
  rw [List.mem_flatMap]
  refine ⟨m, subs_mem _ _ fun c hc => mCards_mem.mpr ⟨?_, hm c hc⟩, ?_⟩
  · by_cases h : c < 32
    · exact h
    · have := Nat.testBit_lt_two_pow (Nat.lt_of_lt_of_le hL (Nat.pow_le_pow_right (by decide) (Nat.le_of_not_lt h)))
      rw [hm c hc] at this
      cases this
  · have : lead = 0 ∨ lead = 1 ∨ lead = 2 := by omega
    rcases this with e | e | e <;> subst e <;> simp
end Tc
namespace Tc
open Rc32
/-! ### the places of a look ahead -/
def Sub (L : Nat) (g : Game) : Prop := ∀ c, c ∈ g.hands.flatten → L.testBit c = true
inductive Node (d al : Nat) (h0 : List Nat) (L : Nat) : Nat → List Nat → Nat → Int → Nat → Prop
  | mid {g : Game} {lf n : Nat} (A : At d al h0 lf g) (hp : g.phase = .playing) (sub : Sub L g) (hn : 2 * left g ≤ n) : Node d al h0 L lf g.trick (turn g) (toGo g.points (left g) g) n
  | full {g : Game} {lf c n : Nat} (A : At d al h0 lf g) (hp : g.phase = .playing) (hc : c ∈ may g) (hl : ¬ g.trick.length < 2) (sub : Sub L g) (hn : 2 * (left g - 1) + 1 ≤ n) : Node d al h0 L (lf ^^^ 2 ^ c) (g.trick ++ [c]) g.lead (toGo g.points (left g - 1) (next g c)) n
/-- ahead of a trick, or at the end -/
inductive From (d al : Nat) (h0 : List Nat) (L : Nat) : Nat → Nat → Int → Nat → Prop
  | go {k : Game} {lf n : Nat} (A : At d al h0 lf k) (ht : k.trick = []) (hp : k.phase = .playing ∨ (left k = 0 ∧ k.phase = .over ∧ (d = 5 → k.tricks = 0))) (sub : Sub L k) (hn : 2 * left k ≤ n) : From d al h0 L lf k.lead (toGo k.points (left k) k) n
theorem left_pos {g : Game} (w : Wf g) (hp : g.phase = .playing) : 0 < left g := by
  have := left_eq w hp
  obtain ⟨_, pl⟩ := w.playing hp
  have h1 := pl.played
  have h2 := pl.trick
  omega
theorem node_zero {d al lf who : Nat} {h0 ts : List Nat} {L : Nat} {val : Int} (h : Node d al h0 L lf ts who val 0) : False := by
  cases h with
  | mid A hp sub hn => have := left_pos A.wf hp; omega
  | full A hp hc hl sub hn => omega
theorem sub_next {L c : Nat} {g : Game} (w : Wf g) (hp : g.phase = .playing) (hc : c ∈ may g) (s : Sub L g) : Sub L (next g c) := fun x hx => by
  rw [(next_game hp hc).2.2] at hx
  exact s x ((perm_drop w.base.three (turn_lt hp) w.base.flat.nd (legal_mem hc)).mem_iff.mp (List.mem_append_left _ hx))
/-- a card more -/
theorem node_child {d al lf c n L : Nat} {h0 : List Nat} {g : Game} (A : At d al h0 lf g) (hp : g.phase = .playing) (sub : Sub L g) (hn : 2 * left g ≤ n + 1) (hc : c ∈ may g) :
    Node d al h0 L (lf ^^^ 2 ^ c) (g.trick ++ [c]) ((turn g + 1) % 3) (toGo g.points (left g - 1) (next g c)) n := by
  obtain ⟨_, pl⟩ := A.wf.playing hp
  have hl3 := pl.lead
  have ht3 := pl.trick
  have ln := left_next A.wf hp hc
  have et := turn_playing hp
  by_cases hl : g.trick.length < 2
  · rcases next_cases hp hc with ⟨_, e⟩ | ⟨l1, _⟩
    · have hp' : (next g c).phase = .playing := by rw [e]; exact hp
      have := Node.mid (n := n) (at_next A hp hc) hp' (sub_next A.wf hp hc sub) (by omega)
      have e1 : (next g c).trick = g.trick ++ [c] := by rw [e]
      have e2 : turn (next g c) = (turn g + 1) % 3 := by
        rw [turn_playing hp', et, e1, List.length_append, List.length_singleton]
        have : (next g c).lead = g.lead := by rw [e]
        rw [this]
        omega
      have e3 : (next g c).points = g.points := by rw [e]
      have e4 : left (next g c) = left g - 1 := by omega
      rw [e1, e2, e3, e4] at this
      exact this
    · exact absurd hl l1
  · have := Node.full (n := n) A hp hc hl sub (by omega)
    have e2 : g.lead = (turn g + 1) % 3 := by rw [et]; omega
    rw [e2] at this
    exact this
/-- the values behind the cards -/
def vals (g : Game) (cs : List Nat) : List Int := cs.map fun c => toGo g.points (left g - 1) (next g c)
theorem node_val {g : Game} (w : Wf g) (hp : g.phase = .playing) {m : Nat} (hm : m = maskOf (may g)) : toGo g.points (left g) g ∈ vals g (mCards m) := by
  have pos := left_pos w hp
  have e : left g = (left g - 1) + 1 := by omega
  have mem : ∀ c, c ∈ may g → toGo g.points (left g - 1) (next g c) ∈ vals g (mCards m) := fun c hc => List.mem_map.mpr ⟨c, by rw [hm]; exact (may_hand w).cards.mem_iff.mpr hc, rfl⟩
  rw [e]
  by_cases ha : g.alone = some (turn g)
  · obtain ⟨⟨c, hc, e1⟩, _⟩ := go_max (f := left g - 1) w hp ha
    rw [e1]; exact mem c hc
  · obtain ⟨⟨c, hc, e1⟩, _⟩ := go_min (f := left g - 1) w hp ha
    rw [e1]; exact mem c hc
theorem node_max {g : Game} (w : Wf g) (hp : g.phase = .playing) (ha : g.alone = some (turn g)) {c : Nat} (hc : c ∈ may g) : toGo g.points (left g - 1) (next g c) ≤ toGo g.points (left g) g := by
  have pos := left_pos w hp
  have := (go_max (f := left g - 1) w hp ha).2 c hc
  rw [show left g - 1 + 1 = left g by omega] at this
  exact this
theorem node_min {g : Game} (w : Wf g) (hp : g.phase = .playing) (ha : g.alone ≠ some (turn g)) {c : Nat} (hc : c ∈ may g) : toGo g.points (left g) g ≤ toGo g.points (left g - 1) (next g c) := by
  have pos := left_pos w hp
  have := (go_min (f := left g - 1) w hp ha).2 c hc
  rw [show left g - 1 + 1 = left g by omega] at this
  exact this
/-- behind a whole trick -/
theorem node_from {d al lf c L n : Nat} {h0 : List Nat} {g : Game} (A : At d al h0 lf g) (hp : g.phase = .playing) (hc : c ∈ may g) (hl : ¬ g.trick.length < 2) (sub : Sub L g) (hn : 2 * (left g - 1) + 1 ≤ n + 1) {k : Nat} (ek : k = (g.lead + taker d (g.trick ++ [c])) % 3) (h5 : k = al → d ≠ 5) :
    ∃ v, From d al h0 L (lf ^^^ 2 ^ c) k v n ∧ toGo g.points (left g - 1) (next g c) = (if k = al then (((g.trick ++ [c]).map points).sum : Int) else 0) + v := by
  obtain ⟨t1, t2, t3, _, t5⟩ := at_trick A hp hc hl ek
  have ln := left_next A.wf hp hc
  refine ⟨toGo (next g c).points (left (next g c)) (next g c), ?_, ?_⟩
  · have := From.go (n := n) (at_next A hp hc) t1 (by
      by_cases e : k = al
      · rcases (t5 e (h5 e)).2 with z | z
        · exact .inl z
        · exact .inr ⟨z.1, z.2, fun y => absurd y (h5 e)⟩
      · exact (t3 e).2) (sub_next A.wf hp hc sub) (by omega)
    rw [t2] at this
    exact this
  · by_cases e : k = al
    · rw [if_pos e]; exact (t5 e (h5 e)).1
    · rw [if_neg e, Int.zero_add]; exact (t3 e).1
end Tc

/-! The highest card of a mask. Plain Lean. -/
namespace Tc
theorem top_bit {m h : Nat} (h1 : 2 ^ h ≤ m) (h2 : m < 2 ^ (h + 1)) : m.testBit h = true := by
  have e : m = 2 ^ h + (m - 2 ^ h) := by omega
  rw [e, Nat.testBit_two_pow_add_eq]
  have : m - 2 ^ h < 2 ^ h := by rw [Nat.pow_succ] at h2; omega
  rw [Nat.testBit_lt_two_pow this]
  rfl
theorem above_top {m h c : Nat} (h2 : m < 2 ^ (h + 1)) (hc : h < c) : m.testBit c = false :=
  Nat.testBit_lt_two_pow (Nat.lt_of_lt_of_le h2 (Nat.pow_le_pow_right (by decide) hc))
theorem xor_top {m h : Nat} (h1 : 2 ^ h ≤ m) (h2 : m < 2 ^ (h + 1)) : m ^^^ 2 ^ h < 2 ^ h := by
  refine Nat.lt_pow_two_of_testBit _ fun c hc => ?_
  rw [Nat.testBit_xor, Nat.testBit_two_pow]
  by_cases e : h = c
  · subst e; rw [top_bit h1 h2]; simp
  · rw [above_top h2 (by omega)]; simp [e]
theorem mCards_sorted (m : Nat) : (mCards m).Pairwise fun a b => b ≤ a := by
  unfold mCards
  rw [List.pairwise_reverse]
  exact (List.pairwise_le_range).sublist List.filter_sublist
theorem cards_top {m h : Nat} (hm : m < 2 ^ 32) (h1 : 2 ^ h ≤ m) (h2 : m < 2 ^ (h + 1)) : mCards m = h :: mCards (m ^^^ 2 ^ h) := by
  have h32 : h < 32 := by
    refine Nat.lt_of_not_le fun z => ?_
    have := Nat.pow_le_pow_right (n := 2) (by decide) z
    omega
  have lt := xor_top h1 h2
  have mem : ∀ c, c ∈ mCards m ↔ c ∈ h :: mCards (m ^^^ 2 ^ h) := fun c => by
    rw [List.mem_cons, mCards_mem, mCards_mem, Nat.testBit_xor, Nat.testBit_two_pow]
    by_cases e : h = c
    · subst e; simp [h32, top_bit h1 h2]
    · have e' : ¬ c = h := fun z => e z.symm
      simp [e, e']
  have nin : h ∉ mCards (m ^^^ 2 ^ h) := fun z => by
    have := (mCards_mem.mp z).2
    rw [Nat.testBit_xor, Nat.testBit_two_pow, top_bit h1 h2] at this
    simp at this
  have nd : (h :: mCards (m ^^^ 2 ^ h)).Nodup := List.nodup_cons.mpr ⟨nin, mCards_nodup _⟩
  refine ((List.perm_ext_iff_of_nodup (mCards_nodup _) nd).mpr mem).eq_of_pairwise (fun a b _ _ x y => Nat.le_antisymm y x) (mCards_sorted m) ?_
  refine List.pairwise_cons.mpr ⟨fun c hc => ?_, mCards_sorted _⟩
  have h3 := (mCards_mem.mp hc).2
  refine Nat.le_of_not_lt fun z => ?_
  have := Nat.testBit_lt_two_pow (Nat.lt_of_lt_of_le lt (Nat.pow_le_pow_right (by decide) (Nat.le_of_lt z)))
  rw [this] at h3
  cases h3
theorem mCards_zero : mCards 0 = [] := by decide +kernel
end Tc

namespace Tc
theorem keep_goOn (p : PG) (x : Int) : (mGoOn p x).1.trick = p.trick := by
  unfold mGoOn
  split
  · rfl
  · split <;> rfl
theorem keep_speak (p : PG) (x : Int) : (mSpeak p x).1.trick = p.trick := by
  unfold mSpeak mSayValue mReply mLastWord
  repeat' split
  all_goals first | exact keep_goOn _ _ | rfl
theorem keep_take (p : PG) (x : Int) : (mTake p x).1.trick = p.trick := by
  unfold mTake
  repeat' split
  all_goals rfl
theorem keep_lay (p : PG) (x y : Int) : (mLay p x y).1.trick = p.trick := by
  unfold mLay
  repeat' split
  all_goals rfl
theorem keep_declare (p : PG) (x y : Int) : (mDeclare p x y).1.trick = p.trick := by
  unfold mDeclare
  repeat' split
  all_goals rfl
end Tc

/-! THE HEAD OF A SPECIFICATION'S ROW over the hand layer: one argument, a list of whole numbers; the answer a new list of whole numbers. -/
namespace L2
open PySem PySem.Spec PyProof.Rows

theorem reads_ints {cl : Str → Option Addr} {h : Heap} : ∀ {ks : List Int} {us : List Value}, Vals (ks.map V.int) us → PySem.W.ReadsAllW [] cl h us (ks.map PySem.W.WData.int) []
  | [], us, r => by
    rw [List.map_nil] at r
    cases r
    exact .nil
  | k :: ks, us, r => by
    rw [List.map_cons] at r
    cases r with
    | cons r1 r2 =>
      obtain ⟨t, rfl⟩ := r1
      exact .cons (as := []) (.int k t) (reads_ints r2)

/-- law_call with any wish about the answer -/
theorem law_callQ {P : Program} {w : World} {K : PySem.W.Frag} {mg mb : Str → Option Value} {CX : CXT} {k : Nat} {fa a : Addr} {fd : FuncData} {x : Str} {sp : Sp} {s₁ : Shared} {vs : List Value} {ns : List Int} {Rq : VK}
    (KX : K.In s₁.heap) (hns : s₁.heap.Ns mainGlobals mg) (hb : s₁.heap.Ns builtinsNs mb) (hbb : ∀ x : Str, x ≠ "__name__" → mb x = bootBuiltins x) (hlim : s₁.heap.NoLimit) (hg : s₁.gens = #[])
    (ha : s₁.heap.get? a = some { cls := .type "list", data := .seq vs.toArray }) (hi : IntsAre vs ns) (hl : ns.length ≤ sizeLine) (hr : Room k callerA)
    (F : ∀ base : Heap, K.In base → base.Ns mainGlobals mg → FnOk P w K mg base CX k fa fd [x] sp) (hbind : ∀ (s : Shared) (u : Value), BindsTo s fd ⟨[u], []⟩ [(x, u)])
    (hsp : ∀ H : Hp, Only H → SqL K H a (ns.map V.int) → sp [.ref a] H Rq fun _ _ _ => False)
    (hCX : ∀ H e s', CX [] H s₁ (fun _ _ _ => False) e s' → False) :
    codeAny (model P w) callerA (.call (.ref fa) ⟨[.ref a], []⟩) (fun r s' => (∃ u v H', r = .ok (.ret u) ∧ RelV v u ∧ HOk P w H' s'.heap ∧ Rq v H') ∧ OldK s₁.heap s'.heap ∧ s'.os = s₁.os ∧ AllBare s'.gens) s₁ := by
  have rv := vals_ints hi
  have lenV := hi.length
  have core : ∀ H : Hp, Only H → SqL K H a (ns.map V.int) → HOk P w H s₁.heap → (∀ b, H b ≠ none → b = a) → (H a ≠ none → K.lookup a = none) →
      codeAny (model P w) callerA (.call (.ref fa) ⟨[.ref a], []⟩) (fun r s' => (∃ u v H', r = .ok (.ret u) ∧ RelV v u ∧ HOk P w H' s'.heap ∧ Rq v H') ∧ OldK s₁.heap s'.heap ∧ s'.os = s₁.os ∧ AllBare s'.gens) s₁ := by
    intro H hO hS hok hA hK
    have base_of : ∀ {b : Addr} {o : Obj}, s₁.heap.get? b = some o → H b = none → (hidT s₁.heap H).get? b = some o := fun e n => hidT_get e n
    have noA : ∀ {b : Addr} {o : Obj} {es : Array DictEntry} {ep : Nat}, s₁.heap.get? b = some o → o.data = .dict es ep → H b = none := fun {b o es ep} e d => by
      cases q : H b with
      | none => rfl
      | some u =>
        have e' : b = a := hA b (by rw [q]; simp)
        subst e'
        rw [ha] at e; cases e
        have d' : Data.seq vs.toArray _ = Data.dict es ep := d
        cases d'
    have nsK : ∀ {b : Addr} {m : Str → Option Value}, s₁.heap.Ns b m → (hidT s₁.heap H).Ns b m := fun {b m} ⟨o, es, ep, e, d, r⟩ => ⟨o, es, ep, base_of e (noA e d), d, r⟩
    have hKb : K.In (hidT s₁.heap H) := fun b o e => base_of (KX b o e) (by
      cases q : H b with
      | none => rfl
      | some u =>
        have e' : b = a := hA b (by rw [q]; simp)
        subst e'
        rw [hK (by rw [q]; simp)] at e; cases e)
    have hM : Mod K mg (hidT s₁.heap H) := ⟨hKb, nsK hns, ⟨mb, nsK hb, hbb⟩, let ⟨mc, h1, h2⟩ := hlim; ⟨mc, nsK h1, h2⟩⟩
    have e0 : Env0 P w K mg (hidT s₁.heap H) callerA [] s₁ H := ⟨rfl, hM, fun b o e => of_hidT e, Nat.le_of_eq (hidT_size _ _), trivial, fun b hb => absurd (show b ∈ ([] : List Addr) from hb) (by simp), hok, .of_eq hg⟩
    refine codeAny_mono ((F _ hKb (nsK hns)).run callerA [] s₁ H ⟨[.ref a], []⟩ [.ref a] [.ref a] _ _ hr e0 (hbind s₁ (.ref a)) (.cons rfl .nil) (hsp H hO hS)) fun r s' h => ?_
    cases r with
    | error e => exact (hCX H e s' h).elim
    | ok fl =>
      cases fl with
      | next => exact False.elim h
      | brk => exact False.elim h
      | cont => exact False.elim h
      | ret u =>
        obtain ⟨v, H', os, bare, un, hok', r', q⟩ := h
        refine ⟨⟨u, v, H', rfl, r', hok', q⟩, OldK.of_keep fun b o e => ?_, os, bare⟩
        cases q : H b with
        | none => exact un.keep b o e q (by intro z; exact absurd (show b ∈ ([] : List Addr) from z) (by simp)) (by simp)
        | some u =>
          rcases hO b with z | ⟨ob, xs, z⟩
          · rw [q] at z; cases z
          · have z2 := un.frzs b ob _ z
            obtain ⟨e1, _⟩ := hok b _ z
            obtain ⟨e2, _⟩ := hok' b _ z2
            rw [e] at e1; cases e1
            exact e2
  cases hk : K.lookup a with
  | some o =>
    have e := KX a o hk
    rw [ha] at e
    cases e
    refine core (fun _ => none) (fun _ => .inl rfl) (.inr ⟨_, vs.toArray, _, hk, rfl, rfl, rfl, by rw [List.size_toArray, lenV]; exact hl, by simpa using rv⟩) (fun b u z => by have z' : (none : Option HO) = some u := z; cases z') (fun b z => absurd rfl z) fun z => absurd rfl z
  | none =>
    refine core (fun b => if b = a then some (.frz { cls := .type "list", data := .seq vs.toArray } (.lst (ns.map V.int))) else none) (fun b => ?_) (.inl (.inr ⟨{ cls := .type "list", data := .seq vs.toArray }, if_pos rfl⟩)) (fun b u z => ?_) (fun b z => ?_) fun _ => hk
    · by_cases hb : b = a
      · exact .inr ⟨_, _, if_pos hb⟩
      · exact .inl (if_neg hb)
    · by_cases hb : b = a
      · have z' := (if_pos hb).symm.trans z
        cases z'
        subst hb
        exact ⟨ha, by rw [List.length_map]; exact hl, vs, _, rv, ha⟩
      · have z' := (if_neg hb).symm.trans z
        cases z'
    · by_cases hb : b = a
      · exact hb
      · exact absurd (if_neg hb) z
end L2

namespace L2S
open PySem PySem.W PySem.Calls PyProof.Rows

/-- what pre says of a request of one list of whole numbers -/
theorem pre_one {prog : Program} {name : Str} {ret : Codec} {least most : Nat} {lo hi : Int} {asked : List Int → Bool} {f : List Int → ret.denote} {args : List WData}
    (h : (OpenSpec.mk prog name [.list least most (.int lo hi)] ret asked f).pre args = true) :
    ∃ ns : List Int, args = [.list (ns.map .int)] ∧ ns.length ≤ most ∧ asked ns = true ∧ Codec.decAll [.list least most (.int lo hi)] args = some (ns, ()) := by
  have hsh : WShape.hasAll [] args [.list .int] = true := os_shapes args h
  obtain ⟨d, r, rfl, h1, h2⟩ := hasAllW_cons hsh
  obtain rfl := hasAllW_nil h2
  obtain ⟨xs, rfl, h3⟩ := hasW_list h1
  obtain ⟨ns, rfl⟩ := items_int h3
  have e : ofPy (PyData.list (ns.map PyData.int)) = .list (ns.map WData.int) := by
    rw [← ofPys_ints]
    rfl
  have hd := os_pre_isSome h
  have hd' : (Codec.decAll [.list least most (.int lo hi)] [ofPy (PyData.list (ns.map PyData.int))]).isSome = true := by rw [e]; exact hd
  obtain ⟨d1, _, d2, _⟩ := os_dec_ints hd'
  rw [e] at d1
  exact ⟨ns, rfl, d2, os_pre_asked h d1, d1⟩
theorem post_one {prog : Program} {name : Str} {least most l2 m2 : Nat} {lo hi lo2 hi2 : Int} {asked : List Int → Bool} {f : List Int → List Int} {args : List WData} {ns : List Int}
    (h : Codec.decAll [.list least most (.int lo hi)] args = some (ns, ())) : (OpenSpec.mk prog name [.list least most (.int lo hi)] (.list l2 m2 (.int lo2 hi2)) asked f).post args (.list ((f ns).map .int)) = true :=
  os_post (a := (ns, ())) h (same_self _)

/-- THE HEAD: the goal that k_headS leaves (case hc), from the def's promise -/
theorem walk_ofS {r : OpenSpec} {n k : Nat} {q : Program} {loose : List Str} {XP : (Str → Option Value) → Heap → Prop} {YP : World → Heap → Prop} {d : DefRec} {K : Params → Frag} {sp : Frag → L2.Sp} {x : Str} {asked : List Int → Prop} {f : List Int → List Int}
    (hpre : ∀ args, r.pre args = true → ∃ ns : List Int, args = [.list (ns.map .int)] ∧ ns.length ≤ n ∧ asked ns ∧ r.post args (.list ((f ns).map .int)) = true)
    (hn2 : n ≤ sizeLine) (hdf : d.params.defaults = []) (hr : L2.Room k callerA)
    (hY : ∀ (w : World) (h : Heap), YP w h → (K w.params).In h)
    (F : ∀ (w : World) (mg : Str → Option Value) (fa : Addr) (h : Heap), (K w.params).In h → h.Ns mainGlobals mg → mg d.name = some (.ref fa) →
      ∃ fd : FuncData, (∀ (s : Shared) (u : Value), BindsTo s fd ⟨[u], []⟩ [(x, u)]) ∧
        ∀ base : Heap, (K w.params).In base → base.Ns mainGlobals mg → L2.FnOk r.prog w (K w.params) mg base L2.CX0 k fa fd [x] (sp (K w.params)))
    (hsp : ∀ (K : Frag) (H : L2.Hp) (a : Addr) (ns : List Int), ns.length ≤ n → asked ns → L2.Only H → L2.SqL K H a (ns.map L2.V.int) → sp K [.ref a] H (fun v H' => ∃ p, v = .ref p ∧ H' p = some (.lst ((f ns).map L2.V.int))) fun _ _ _ => False) :
    WalkOS q loose XP YP r d [] (fun f vs => PySem.call f vs) := by
  intro w s₀ s₁ mg mb G Y fa o pm cd doc dV kV ho hd hcd hD hmg hg args vals as hp hlay hrd hwl hlo
  obtain rfl : dV = .none := Dflts.none hD hdf
  obtain rfl : kV = .none := Dflts.noKw hD
  obtain ⟨ns, rfl, hlen, hask, hpost⟩ := hpre args hp
  have KX := hY w _ Y
  obtain ⟨fd, hb, hF⟩ := F w mg fa _ KX G.T.g hmg
  cases hwl with
  | cons w1 w2 =>
    cases w2
    cases w1 with
    | @list a vs xs hob hall =>
      have hints := Att.ints_of_wellAll ns _ hall
      refine enter_call (codeAny_mono (L2.law_callQ KX G.T.g G.T.b G.T.builtins G.T.nolimit hg hob hints (Nat.le_trans hlen hn2) hr hF hb (fun H hO hS => hsp _ H a ns hlen hask hO hS) fun _ _ _ z => z) fun r' s' hq => ?_)
      obtain ⟨⟨u, v, H', rfl, rv, hok, p, rfl, hpp⟩, hold, hos, hbare⟩ := hq
      obtain rfl : u = Value.ref p := rv
      obtain ⟨_, its, m, rvs, hget⟩ := hok p _ hpp
      exact ⟨.inl ⟨.ref p, .list ((f ns).map .int), [p], rfl, fun _ => rfl, .list hget rfl rfl (show ReadsAllW [] _ _ its.toArray.toList _ [] by simpa using L2.reads_ints (cl := classAt s₀.heap) (h := s'.heap) rvs), hpost, fun z => absurd z Bool.false_ne_true⟩, hold, hos, hbare⟩
end L2S

/-! RULES OF MY OWN over the hand layer: names of the module, its defs and classes in one word each, list(range(n)), bits of numbers that are not below 0. -/
namespace L2
open PySem PySem.Spec PyProof.Rows

/-- an int of the module's -/
def GlI (mg : Str → Option Value) (x : Str) (i : Int) : Prop := ∃ t, mg x = some (.int i t)
/-- a tuple of ints of the module's -/
def GlT (K : PySem.W.Frag) (mg : Str → Option Value) (x : Str) (ns : List Int) : Prop := ∃ a, mg x = some (.ref a) ∧ ∀ H, SqT K H a (ns.map V.int)
/-- a def of the module's -/
structure Defn (K : PySem.W.Frag) (mg : Str → Option Value) (x : Str) (st : Stmt) (ps : List Str) where
  f : Addr
  fd : FuncData
  fn : Fun K x x st f fd
  glob : mg x = some (.ref f)
  ba : ∀ us : List Value, us.length = ps.length → bindArgs fd ⟨us, []⟩ = pure (ps.zip us)
theorem Defn.bd {K : PySem.W.Frag} {mg : Str → Option Value} {x : Str} {st : Stmt} {ps : List Str} (D : Defn K mg x st ps) : Binds K D.fd ps [] := .all D.ba
/-- a class of the module's: its __init__, and the names that no class of it has -/
structure Klass (K : PySem.W.Frag) (mg : Str → Option Value) (x qual : Str) (st : Stmt) (ps attrs : List Str) where
  C : Addr
  f : Addr
  fd : FuncData
  cl : Cls K C
  made : Mk K C f
  fn : Fun K "__init__" qual st f fd
  glob : mg x = some (.ref C)
  bd : Binds K fd ps []
  no : ∀ (i : Nat) (f : Str), attrs[i]? = some f → NoAttr K C f

/-- the ints of written items -/
def intsOf : List Value → Option (List Int)
  | [] => some []
  | .int i _ :: r => (intsOf r).map (i :: ·)
  | _ :: _ => none
theorem intsOf_vals : ∀ {us : List Value} {ns : List Int}, intsOf us = some ns → Vals (ns.map V.int) us
  | [], ns, h => by
    have e : ([] : List Int) = ns := Option.some.inj h
    subst e
    exact .nil
  | u :: us, ns, h => by
    cases u with
    | int i t =>
      have h' : (intsOf us).map (i :: ·) = some ns := h
      cases e : intsOf us with
      | none => rw [e] at h'; cases h'
      | some r =>
        rw [e] at h'
        have e2 : i :: r = ns := Option.some.inj h'
        subst e2
        exact .cons ⟨t, rfl⟩ (intsOf_vals e)
    | _ => cases (show (none : Option (List Int)) = some ns from h)
theorem intsOf_size {its : Array Value} {ns : List Int} (h : intsOf its.toList = some ns) (hz : ns.length ≤ sizeLine) : its.size ≤ sizeLine := by
  have e := (intsOf_vals h).length
  rw [List.length_map] at e
  rw [← Array.length_toList, ← e]
  exact hz

section
variable {X : Cx} {x : Str} {pos p : Pos}
theorem pe_gint {i : Int} (hg : Gl X x) (h : GlI X.mg x i) (hd : (x == ("__debug__" : Str)) = false := by decide) : PE X (.Name x pos) (tC (.int i)) := by
  obtain ⟨t, e⟩ := h
  exact pe_glob hg e ⟨t, rfl⟩ hd
def tGs (K : PySem.W.Frag) (ns : List Int) : TE := fun _ H Q => ∀ a, (∀ H', SqT K H' a (ns.map V.int)) → Q (.ref a) H
theorem pe_gseq {ns : List Int} (hg : Gl X x) (h : GlT X.K X.mg x ns) (hd : (x == ("__debug__" : Str)) = false := by decide) : PE X (.Name x pos) (tGs X.K ns) := by
  obtain ⟨a, e, s⟩ := h
  exact fun _ _ _ H _ I h => ld_glob I hg e ⟨.ref a, H, I, rfl, h a s⟩ hd
variable {st : Stmt} {ps attrs : List Str} {k : Nat} {sp : Sp} {e : Expr} {es : List Expr} {t : TA}
theorem pe_def (D : Defn X.K X.mg x st ps) (F : FnOk X.prog X.w X.K X.mg X.base CX0 k D.f D.fd ps sp) (hr : Room k X.A) (hg : Gl X x) (ha : PA X (e :: es) t)
    (hdb : (x == ("__debug__" : Str)) = false := by decide) (he : starEach (e :: es) X.env = (false, eval e X.env) :: starEach es X.env := by rfl) (hpl : (backTo pos (starEach es X.env)).any (·.1) = false := by rfl) :
    PE X (.Call (.Name x p) (e :: es) [] pos) (tCall sp [] E0 t) := pe_call F hr hg D.glob D.fn.kp D.bd .nil pass0 ha hdb he hpl
variable {qual : Str}

/-! ### list(range(n)) -/
theorem call_rng : CallR X (.type "range") (fun xs H Q => ∃ n : Int, xs = [.int n] ∧ ∀ p, H p = none → Q (.ref p) (upd H p (.rng 0 n))) := by
  intro pins s σ H xs us Q I r h
  obtain ⟨n, rfl, q⟩ := h
  cases r with
  | cons r1 r2 =>
    cases r2
    obtain ⟨t, rfl⟩ := r1
    exact call_range_1 ⟨.ref s.heap.objs.size, upd H s.heap.objs.size (.rng 0 n), I.laid (fun b u e => Heap.get?_push_of_some _ e) (Nat.le_refl _) ⟨_, _, _, Heap.get?_push_size _ rfl⟩, rfl, q _ (I.hok.fresh (Nat.le_refl _))⟩
theorem vals_items {lo : Int} {n : Nat} {acc : Array Value} (h : ItemsOf (fun i v => ∃ t, v = .int (lo + i * 1) t) acc n) : Vals ((List.range n).map fun i => V.int (lo + (i : Nat))) acc.toList := by
  obtain ⟨hs, hi⟩ := h
  have gen : ∀ (m : Nat) (vs : List Value), vs.length = m → (∀ (j : Nat) v, vs[j]? = some v → ∃ t, v = Value.int (lo + (j : Nat) * 1) t) → Vals ((List.range m).map fun i => V.int (lo + (i : Nat))) vs := by
    intro m
    induction m with
    | zero =>
      intro vs hl _
      have : vs = [] := List.length_eq_zero_iff.mp hl
      subst this
      exact .nil
    | succ m ih =>
      intro vs hl hv
      have hne : vs ≠ [] := by intro z; rw [z] at hl; simp at hl
      have e : vs = vs.dropLast ++ [vs.getLast hne] := (List.dropLast_concat_getLast hne).symm
      have hl' : vs.dropLast.length = m := by rw [List.length_dropLast, hl]; rfl
      have r1 := ih vs.dropLast hl' fun j v q => hv j v (by
        rw [e]
        exact (List.getElem?_append_left (List.getElem?_eq_some_iff.mp q).1).trans q)
      obtain ⟨t, hlast⟩ := hv m (vs.getLast hne) (by rw [List.getLast_eq_getElem]; rw [List.getElem?_eq_getElem (by omega)]; congr 2; omega)
      rw [List.range_succ, List.map_append, e]
      refine r1.append (.cons ⟨t, ?_⟩ .nil)
      rw [hlast]
      congr 1
      omega
  refine gen n acc.toList (by simpa using hs) fun j v q => ?_
  have := hi j v (by simpa using q)
  exact this
theorem call_list_rng (hc : X.calm = true) : CallR X (.type "list") (fun xs H Q => ∃ (p : Addr) (n : Nat), xs = [.ref p] ∧ H p = some (.rng 0 n) ∧ n ≤ 2 ^ 20 ∧ ∀ l, H l = none → Q (.ref l) (upd H l (.lst ((List.range n).map fun i => V.int (i : Nat))))) := by
  intro pins s σ H xs us Q I r h
  obtain ⟨p, n, rfl, hp, hn, q⟩ := h
  rw [Vals.ref1 r]
  obtain ⟨t, u, v, ho⟩ := I.hok p _ hp
  have hn' : (n : Int) ≤ 2 ^ 20 := by exact_mod_cast hn
  refine PySem.call_list_range (I.ok.hd hc) ho (small_one (by omega) (by omega) (by omega) (by omega)) (n := n) (by rw [rangeSize_one]; split <;> omega) (by omega) fun h' tk acc c' hk hS hacc => ?_
  have rv := vals_items hacc
  have e : ((List.range n).map fun i => V.int (0 + ((i : Nat) : Int))) = (List.range n).map fun i => V.int ((i : Nat) : Int) := List.map_congr_left fun i _ => by rw [Int.zero_add]
  rw [e] at rv
  refine ⟨.ref s.heap.objs.size, _, I.laid (o := .lst ((List.range n).map fun i => V.int ((i : Nat) : Int))) hk (Nat.le_refl _) ⟨?_, acc.toList, c', rv, by simpa using hS⟩, rfl, q _ (I.hok.fresh (Nat.le_refl _))⟩
  rw [List.length_map, List.length_range, sizeLine_eq]
  omega
end

/-! ### bits -/
theorem bor (a b : Nat) : Builtin.bitOr (a : Int) (b : Int) = ((a ||| b : Nat) : Int) := by
  have h1 : ¬ (0 : Int) ≤ -(a : Int) - 1 := by omega
  have h2 : ¬ (0 : Int) ≤ -(b : Int) - 1 := by omega
  unfold Builtin.bitOr Builtin.bitAnd Builtin.bitNot
  rw [decide_eq_false h1, decide_eq_false h2]
  dsimp only
  have e1 : (-(-(a : Int) - 1) - 1).toNat = a := by omega
  have e2 : (-(-(b : Int) - 1) - 1).toNat = b := by omega
  rw [e1, e2]
  omega
theorem band (a b : Nat) : Builtin.bitAnd (a : Int) (b : Int) = ((a &&& b : Nat) : Int) := by
  rw [bitAnd_pp (by omega) (by omega)]
  rfl
theorem bxor (a b : Nat) : Builtin.bitXor (a : Int) (b : Int) = ((a ^^^ b : Nat) : Int) := by
  unfold Builtin.bitXor
  rw [bor, band, Tc.or_eq_xor_add_and]
  omega
end L2

/-! ### an object's attributes: names and values -/
namespace L2
open PySem PySem.Spec PyProof.Rows
theorem lookup_zip : ∀ {ks : List Str} {vs : List V} {i : Nat} {f : Str} {v : V}, ks.Nodup → ks[i]? = some f → vs[i]? = some v → (ks.zip vs).lookup f = some v
  | [], _, _, _, _, _, h, _ => by simp at h
  | _ :: _, [], _, _, _, _, _, h => by simp at h
  | k :: ks, v' :: vs, 0, f, v, nd, h1, h2 => by
    simp at h1 h2
    subst h1 h2
    show List.lookup k ((k, v') :: ks.zip vs) = _
    simp [List.lookup]
  | k :: ks, v' :: vs, i + 1, f, v, nd, h1, h2 => by
    obtain ⟨n1, n2⟩ := List.nodup_cons.mp nd
    have h1' : ks[i]? = some f := by simpa using h1
    have ne : f ≠ k := fun e => n1 (by rw [← e]; exact List.mem_of_getElem? h1')
    have hb : (f == k) = false := beq_eq_false_iff_ne.mpr ne
    show List.lookup f ((k, v') :: ks.zip vs) = _
    simp only [List.lookup, hb]
    exact lookup_zip n2 h1' (by simpa using h2)
theorem putF_zip : ∀ {ks : List Str} {vs : List V} {i : Nat} {f : Str} {y : V}, ks.Nodup → ks[i]? = some f → i < vs.length → putF f y (ks.zip vs) = ks.zip (vs.set i y)
  | [], _, _, _, _, _, h, _ => by simp at h
  | _ :: _, [], _, _, _, _, _, h => by simp at h
  | k :: ks, v' :: vs, 0, f, y, nd, h1, h2 => by
    simp at h1
    subst h1
    show (if k = k then (k, y) :: ks.zip vs else _) = _
    rw [if_pos rfl]
    rfl
  | k :: ks, v' :: vs, i + 1, f, y, nd, h1, h2 => by
    obtain ⟨n1, n2⟩ := List.nodup_cons.mp nd
    have h1' : ks[i]? = some f := by simpa using h1
    have ne : ¬ k = f := fun e => n1 (by rw [e]; exact List.mem_of_getElem? h1')
    show (if k = f then (k, y) :: ks.zip vs else (k, v') :: putF f y (ks.zip vs)) = _
    rw [if_neg ne, putF_zip n2 h1' (by simpa using h2)]
    rfl
theorem zip_len {ks : List Str} {vs : List V} (h : ks.length ≤ 900) : (ks.zip vs).length < 1000 := by
  rw [List.length_zip]
  omega
/-- a new attribute at the end -/
theorem putF_new : ∀ {fs : List (Str × V)} {f : Str} {y : V}, f ∉ fs.map (·.1) → putF f y fs = fs ++ [(f, y)]
  | [], _, _, _ => rfl
  | (k, v) :: r, f, y, h => by
    have h1 : ¬ k = f := fun e => h (by simp [e])
    have h2 : f ∉ r.map (·.1) := fun m => h (by simp at m ⊢; exact .inr m)
    show (if k = f then (k, y) :: r else (k, v) :: putF f y r) = _
    rw [if_neg h1, putF_new h2]
    rfl
end L2

/-! ### readings, one word each -/
namespace L2
open PySem PySem.Spec PyProof.Rows
section
variable {K : PySem.W.Frag} {C a dx : Addr} {H : Hp} {ks : List Str} {vs : List V} {i : Nat} {f : Str} {v y : V}
/-- o.f of an object whose attributes are known -/
theorem rd_fld {Q : V → Prop} (h : H a = some (.ins C dx (ks.zip vs))) (cl : Cls K C) (no : NoAttr K C f) (nd : ks.Nodup) (hk : ks[i]? = some f) (hv : vs[i]? = some v) (q : Q v) :
    ∃ a' C' dx' fs v', V.ref a = .ref a' ∧ H a' = some (.ins C' dx' fs) ∧ Cls K C' ∧ NoAttr K C' f ∧ fs.lookup f = some v' ∧ Q v' :=
  ⟨a, C, dx, _, v, rfl, h, cl, no, lookup_zip nd hk hv, q⟩
/-- .. just behind a store -/
theorem rd_fldU {Q : V → Prop} (cl : Cls K C) (no : NoAttr K C f) (nd : ks.Nodup) (hk : ks[i]? = some f) (hv : vs[i]? = some v) (q : Q v) :
    ∃ a' C' dx' fs v', V.ref a = .ref a' ∧ upd H a (.ins C dx (ks.zip vs)) a' = some (.ins C' dx' fs) ∧ Cls K C' ∧ NoAttr K C' f ∧ fs.lookup f = some v' ∧ Q v' :=
  rd_fld upd_same cl no nd hk hv q
/-- o.f = y -/
theorem st_fld {R : Hp → Prop} (h : H a = some (.ins C dx (ks.zip vs))) (cl : Cls K C) (no : NoAttr K C f) (nd : ks.Nodup) (hk : ks[i]? = some f) (hi : vs[i]? = some v) (hz : ks.length ≤ 900)
    (q : R (upd H a (.ins C dx (ks.zip (vs.set i y))))) :
    ∃ a' C' dx' fs, V.ref a = .ref a' ∧ H a' = some (.ins C' dx' fs) ∧ Cls K C' ∧ NoAttr K C' f ∧ fs.length < 1000 ∧ R (upd H a' (.ins C' dx' (putF f y fs))) :=
  ⟨a, C, dx, _, rfl, h, cl, no, zip_len hz, by rw [putF_zip nd hk (List.getElem?_eq_some_iff.mp hi).1]; exact q⟩
theorem st_fldU {R : Hp → Prop} (cl : Cls K C) (no : NoAttr K C f) (nd : ks.Nodup) (hk : ks[i]? = some f) (hi : vs[i]? = some v) (hz : ks.length ≤ 900)
    (q : R (upd H a (.ins C dx (ks.zip (vs.set i y))))) :
    ∃ a' C' dx' fs, V.ref a = .ref a' ∧ upd H a (.ins C dx (ks.zip vs)) a' = some (.ins C' dx' fs) ∧ Cls K C' ∧ NoAttr K C' f ∧ fs.length < 1000 ∧ R (upd (upd H a (.ins C dx (ks.zip vs))) a' (.ins C' dx' (putF f y fs))) :=
  st_fld (R := R) upd_same cl no nd hk hi hz (by rw [upd_upd]; exact q)
theorem itD {c A B : Prop} [Decidable c] (h1 : c → A) (h2 : ¬ c → B) : if decide c = true then A else B := by
  by_cases h : c
  · rw [decide_eq_true h]; exact iteT (h1 h)
  · rw [decide_eq_false h]; exact iteF (h2 h)
theorem itN {c A B : Prop} [Decidable c] (h1 : ¬ c → A) (h2 : c → B) : if (!decide c) = true then A else B := by
  by_cases h : c
  · rw [decide_eq_true h]; exact iteF (h2 h)
  · rw [decide_eq_false h]; exact iteT (h1 h)
end
/-- all that was tracked but at two places is as it was -/
def But2 (a l : Addr) (H H' : Hp) : Prop := ∀ b o, H b = some o → b ≠ a → b ≠ l → H' b = some o
theorem But2.refl {a l : Addr} {H : Hp} : But2 a l H H := fun _ _ e _ _ => e
theorem But2.upd {a l : Addr} {H : Hp} {o : HO} : But2 a l H (L2.upd H a o) := fun b u e h1 _ => by rw [upd_ne h1]; exact e
end L2

/-! ### ints in lists and tuples -/
namespace L2
open PySem PySem.Spec PyProof.Rows
theorem flat_ints : ∀ ns : List Int, (ns.map V.int).all flatV = true
  | [] => rfl
  | n :: r => by rw [List.map_cons, List.all_cons, flat_ints r]; rfl
theorem inV_ints (x : Int) : ∀ ns : List Int, inV (.int x) (ns.map V.int) = decide (x ∈ ns)
  | [] => by simp [inV]
  | n :: r => by
    have ih := inV_ints x r
    unfold inV at ih ⊢
    rw [List.map_cons, List.any_cons, ih]
    show ((n == x) || decide (x ∈ r)) = decide (x ∈ n :: r)
    by_cases h : n = x
    · subst h; simp
    · have h' : ¬ x = n := fun z => h z.symm
      simp [h, h']
theorem dpAll_ints {K : PySem.W.Frag} {H : Hp} : ∀ ns : List Int, DpAll K H (ns.map V.int) (ns.map PyData.int)
  | [] => .nil
  | n :: r => .cons (.int n) (dpAll_ints r)
theorem dp_ints {K : PySem.W.Frag} {H : Hp} {a : Addr} {ns : List Int} (h : SqL K H a (ns.map V.int)) : Dp K H (.ref a) (.list (ns.map PyData.int)) := .lst h (dpAll_ints ns)
theorem canLayAll_ints : ∀ ns : List Int, PyData.canLayAll0 (ns.map PyData.int) = true
  | [] => by simp [PyData.canLayAll0]
  | n :: r => by
    rw [List.map_cons, PyData.canLayAll0, canLayAll_ints r]
    simp [PyData.canLay0]
theorem depthAll_ints : ∀ ns : List Int, PyData.depthAll (ns.map PyData.int) = 0
  | [] => by simp [PyData.depthAll]
  | n :: r => by
    rw [List.map_cons, PyData.depthAll, depthAll_ints r]
    simp [PyData.depth]
theorem shaped_ints (ns : List Int) : SeqAt.shaped (.list (ns.map PyData.int)) = true := by
  unfold SeqAt.shaped
  rw [PyData.canLay0, canLayAll_ints, PyData.depth, depthAll_ints]
  decide
theorem eqvAll_ints : ∀ ns ms : List Int, PyData.eqvAll (ns.map PyData.int) (ms.map PyData.int) = decide (ns = ms)
  | [], [] => by simp [PyData.eqvAll]
  | [], _ :: _ => by simp [PyData.eqvAll]
  | _ :: _, [] => by simp [PyData.eqvAll]
  | n :: r, m :: t => by
    rw [List.map_cons, List.map_cons, PyData.eqvAll, eqvAll_ints r t, PyData.eqv]
    by_cases h : n = m
    · subst h; simp
    · simp [h]
theorem eqv_ints (ns ms : List Int) : PyData.eqv (.list (ns.map PyData.int)) (.list (ms.map PyData.int)) = decide (ns = ms) := by
  rw [PyData.eqv, eqvAll_ints]
/-- the item at a place -/
theorem atI_in {α : Type} {xs : List α} {i : Int} {j : Nat} {v : α} (e : i = (j : Int)) (h : xs[j]? = some v) : atI xs i = some v := by
  subst e
  exact atI_nat h
theorem ixN_nat {n j : Nat} (h : j < n) : ixN n (j : Int) = some j := by
  unfold ixN
  rw [if_pos (by omega), if_pos (by omega), Int.toNat_natCast]
/-- a cut from a place on, or between two places -/
theorem cut_from {xs : List V} {k : Nat} : cutV xs (some (k : Int)) none = xs.drop k := by
  unfold cutV
  rw [HT.sIx_nat, HT.sIx_none]
  by_cases h : k ≤ xs.length
  · rw [Nat.min_eq_left h, List.take_of_length_le (by rw [List.length_drop]; exact Nat.le_refl _)]
  · rw [Nat.min_eq_right (by omega), List.drop_eq_nil_of_le (Nat.le_refl _), List.drop_eq_nil_of_le (by omega)]
    simp
theorem cut_to {xs : List V} {k : Nat} : cutV xs none (some (k : Int)) = xs.take k := by
  unfold cutV
  rw [HT.sIx_nat, HT.sIx_none, Nat.sub_zero, List.drop_zero]
  by_cases h : k ≤ xs.length
  · rw [Nat.min_eq_left h]
  · rw [Nat.min_eq_right (by omega), List.take_of_length_le (Nat.le_refl _), List.take_of_length_le (by omega)]
theorem cut_mid {xs : List V} {j k : Nat} (hj : j ≤ k) : cutV xs (some (j : Int)) (some (k : Int)) = (xs.drop j).take (k - j) := by
  unfold cutV
  rw [HT.sIx_nat, HT.sIx_nat]
  by_cases h : j ≤ xs.length
  · rw [Nat.min_eq_left h]
    by_cases h2 : k ≤ xs.length
    · rw [Nat.min_eq_left h2]
    · rw [Nat.min_eq_right (by omega), List.take_of_length_le (by rw [List.length_drop]; exact Nat.le_refl _), List.take_of_length_le (by rw [List.length_drop]; omega)]
  · rw [Nat.min_eq_right (by omega), Nat.min_eq_right (by omega), List.drop_eq_nil_of_le (Nat.le_refl _), List.drop_eq_nil_of_le (by omega)]
    simp
/-- bits >> card & 1 == 1 -/
theorem bit_test (bits c : Nat) : decide (Builtin.bitAnd ((bits : Int) / 2 ^ c) 1 = 1) = bits.testBit c := by
  have e : ((bits : Int) / 2 ^ c) = ((bits / 2 ^ c : Nat) : Int) := by
    rw [Int.natCast_ediv, Int.natCast_pow]
    rfl
  rw [e, bitAnd_m1]
  have h := Tc.bit_at bits c
  cases q : bits.testBit c with
  | true =>
    rw [q] at h
    simp at h
    rw [decide_eq_true]
    omega
  | false =>
    rw [q] at h
    simp at h
    rw [decide_eq_false]
    omega
end L2

/-! ### a new object's attributes; what stays -/
namespace L2
open PySem PySem.Spec PyProof.Rows
theorem zip_keys : ∀ {ks : List Str} {vs : List V}, (ks.zip vs).map (·.1) = ks.take vs.length
  | [], vs => by simp
  | k :: ks, [] => by simp
  | k :: ks, v :: vs => by
    show k :: (ks.zip vs).map (·.1) = _
    rw [zip_keys, List.length_cons, List.take_succ_cons]
theorem zip_snoc : ∀ {ks : List Str} {vs : List V} {f : Str} {y : V}, ks[vs.length]? = some f → ks.zip vs ++ [(f, y)] = ks.zip (vs ++ [y])
  | [], vs, f, y, h => by simp at h
  | k :: ks, [], f, y, h => by
    simp at h
    subst h
    cases ks <;> rfl
  | k :: ks, v :: vs, f, y, h => by
    show (k, v) :: (ks.zip vs ++ [(f, y)]) = (k, v) :: ks.zip (vs ++ [y])
    rw [zip_snoc (by simpa using h)]
theorem not_before : ∀ {ks : List Str} {n : Nat} {f : Str}, ks.Nodup → ks[n]? = some f → f ∉ ks.take n
  | [], n, f, _, h => by simp at h
  | k :: ks, 0, f, _, _ => by simp
  | k :: ks, n + 1, f, nd, h => by
    obtain ⟨n1, n2⟩ := List.nodup_cons.mp nd
    have h' : ks[n]? = some f := by simpa using h
    rw [List.take_succ_cons]
    intro m
    rcases List.mem_cons.mp m with e | e
    · exact n1 (by rw [← e]; exact List.mem_of_getElem? h')
    · exact not_before n2 h' e
theorem putF_grow {ks : List Str} {vs : List V} {f : Str} {y : V} (nd : ks.Nodup) (h : ks[vs.length]? = some f) : putF f y (ks.zip vs) = ks.zip (vs ++ [y]) := by
  rw [putF_new (by rw [zip_keys]; exact not_before nd h), zip_snoc h]
section
variable {K : PySem.W.Frag} {C a dx : Addr} {H : Hp} {ks : List Str} {vs : List V} {f : Str} {y : V}
theorem st_new {R : Hp → Prop} (h : H a = some (.ins C dx (ks.zip vs))) (cl : Cls K C) (no : NoAttr K C f) (nd : ks.Nodup) (hk : ks[vs.length]? = some f) (hz : ks.length ≤ 900)
    (q : R (upd H a (.ins C dx (ks.zip (vs ++ [y]))))) :
    ∃ a' C' dx' fs, V.ref a = .ref a' ∧ H a' = some (.ins C' dx' fs) ∧ Cls K C' ∧ NoAttr K C' f ∧ fs.length < 1000 ∧ R (upd H a' (.ins C' dx' (putF f y fs))) :=
  ⟨a, C, dx, _, rfl, h, cl, no, zip_len hz, by rw [putF_grow nd hk]; exact q⟩
theorem st_newU {R : Hp → Prop} (cl : Cls K C) (no : NoAttr K C f) (nd : ks.Nodup) (hk : ks[vs.length]? = some f) (hz : ks.length ≤ 900)
    (q : R (upd H a (.ins C dx (ks.zip (vs ++ [y]))))) :
    ∃ a' C' dx' fs, V.ref a = .ref a' ∧ upd H a (.ins C dx (ks.zip vs)) a' = some (.ins C' dx' fs) ∧ Cls K C' ∧ NoAttr K C' f ∧ fs.length < 1000 ∧ R (upd (upd H a (.ins C dx (ks.zip vs))) a' (.ins C' dx' (putF f y fs))) :=
  st_new (R := R) upd_same cl no nd hk hz (by rw [upd_upd]; exact q)
end
theorem SqL.ne {K : PySem.W.Frag} {H : Hp} {r a : Addr} {xs : List V} {o : HO} (h : SqL K H r xs) (n : r ≠ a) : SqL K (L2.upd H a o) r xs := by
  rcases h with (h | ⟨ob, h⟩) | h
  · exact .inl (.inl (by rw [upd_ne n]; exact h))
  · exact .inl (.inr ⟨ob, by rw [upd_ne n]; exact h⟩)
  · exact .inr h
theorem Same.upd {H : Hp} {q : Addr} {o : HO} (hq : H q = none) : Same H (L2.upd H q o) := fun b u e => by rw [upd_ne (ne_of_none e hq)]; exact e
end L2

/-! MORE RULES over the hand layer: list.count, int.bit_length, for .. in enumerate(list). -/
namespace L2
open PySem PySem.Spec PyProof.Rows
section
variable {X : Cx}
theorem count_eqU {x : V} : ∀ {xs : List V} {us : List Value}, Vals xs us → xs.all flatV = true → us.countP (eqU x) = xs.countP fun y => eqV y x
  | _, _, .nil, _ => rfl
  | y :: xs, u :: us, .cons r t, f => by
    rw [List.all_cons, Bool.and_eq_true] at f
    rw [List.countP_cons, List.countP_cons, eqU_of r f.1, count_eqU t f.2]
/-- xs.count(y) -/
theorem mt_countL : MtR X "list.count" (fun x xs H Q => ∃ (a : Addr) (ys : List V) (y : V), x = V.ref a ∧ xs = [y] ∧ SqL X.K H a ys ∧ flatV y = true ∧ ys.all flatV = true ∧ Q (.int ((ys.countP fun z => eqV z y : Nat) : Int)) H) := by
  intro pins s σ H x xs v us Q I rx rxs h
  obtain ⟨a, ys, y, rfl, rfl, hs, fy, fys, q⟩ := h
  cases rx
  cases rxs with
  | cons ry rt =>
    rename_i uy ut
    cases rt
    obtain ⟨its, rv, ⟨⟨cls, dd, data, sl⟩, n, ho, hc, hdn, hd⟩, hlen⟩ := I.list hs
    simp only at hc hd
    subst hc hd
    refine call_meets PySem.F.slot_list_count ⟨_, ho, rfl⟩ PySem.F.entry_list_count (PySem.F.args_list_count_2 _ _)
      (SeqAt.list_countAt a its.toArray n dd sl uy (eqU y)) ⟨ho, fun u' hu' => mem_eqAt ry fy rv fys u' (by simpa using hu'), ?_⟩
    rw [show its.toArray.toList = its from rfl, count_eqU rv fys]
    exact ⟨.int _, H, I.tok _, ⟨_, rfl⟩, q⟩
/-- n.bit_length() -/
theorem mt_bitlen : MtR X "int.bit_length" (fun x xs H Q => ∃ i : Int, x = V.int i ∧ xs = [] ∧ Q (.int ((Builtin.Int.intBits i : Nat) : Int)) H) := by
  intro pins s σ H x xs v us Q I rx rxs h
  obtain ⟨i, rfl, rfl, q⟩ := h
  obtain ⟨t, rfl⟩ := rx
  cases rxs
  exact call_int_bit_length ⟨.int _, H, I.tok _, ⟨_, rfl⟩, q⟩
/-- for k, x in enumerate(xs), the list as it was at each turn -/
theorem for_enum {K : PySem.W.Frag} {a : Addr} {xs : List V} {g : TG} {tb : TS} {D : Ends} {σ : St} {H : Hp} (Pv : Nat → St → Hp → Prop) (h0 : Pv 0 σ H) (hl : ∀ i σ H, i ≤ xs.length → Pv i σ H → SqL K H a xs)
    (hs : ∀ i x σ H T, xs[i]? = some x → Pv i σ H → H T = none → g (.ref T) σ (upd H T (.tup [.int (i : Nat), x])) fun σ2 H2 => tb { D with nx := Pv (i + 1), ct := Pv (i + 1), bk := D.nx } σ2 H2) (hd : ∀ σ H, Pv xs.length σ H → D.nx σ H) :
    ∃ W : Nat → Nat → St → Hp → Prop, (∃ m, W 0 m σ H) ∧ ∀ i m σ H, W i m σ H →
      ((Ite K a).stop i H ∧ D.nx σ H) ∨ ((Ite K a).go i H ∧ ∃ N : St → Hp → Prop, (∀ σ' H', N σ' H' → ∃ m', m' < m ∧ W (i + 1) m' σ' H') ∧ ∀ x H', (Ite K a).yld i H x H' → g x σ H' fun σ2 H2 => tb { D with nx := N, ct := N, bk := D.nx } σ2 H2) := by
  refine ⟨fun i m σ H => m = xs.length - i ∧ i ≤ xs.length ∧ Pv i σ H, ⟨xs.length, by simp, Nat.zero_le _, h0⟩, ?_⟩
  rintro i m σ H ⟨rfl, hi, p⟩
  have q := hl i σ H hi p
  by_cases hlt : i < xs.length
  · refine .inr ⟨⟨xs, xs[i], q, by simp [hlt]⟩, Pv (i + 1), fun σ' H' p' => ⟨xs.length - (i + 1), by omega, rfl, hlt, p'⟩, fun x H' y => ?_⟩
    obtain ⟨T, z, e, hn, eH, y⟩ := y
    subst e eH
    exact hs i z σ _ T (y xs q) p hn
  · have e : i = xs.length := by omega
    subst e
    exact .inl ⟨⟨xs, q, Nat.le_refl _⟩, hd σ H p⟩
end
/-- where the highest bit of a number lies -/
theorem bits_top {m : Nat} (h : 0 < m) : ∃ k : Nat, ((Builtin.Int.intBits ((m : Nat) : Int) : Nat) : Int) - 1 = (k : Int) ∧ 2 ^ k ≤ m ∧ m < 2 ^ (k + 1) := by
  have h1 : m < 2 ^ Builtin.Int.intBits ((m : Nat) : Int) := by
    have := (PySem.intBits_le_iff (m := Builtin.Int.intBits ((m : Nat) : Int)) (x := ((m : Nat) : Int))).mp (Nat.le_refl _)
    simpa using this
  generalize hb : Builtin.Int.intBits ((m : Nat) : Int) = b at h1
  cases b with
  | zero => simp at h1; omega
  | succ k =>
    refine ⟨k, by omega, Nat.le_of_not_lt fun z => ?_, h1⟩
    have := (PySem.intBits_le_iff (m := k) (x := ((m : Nat) : Int))).mpr (by simpa using z)
    omega
end L2
namespace L2
open PySem PySem.Spec PyProof.Rows
/-- o.f += e, the store, just behind another store -/
theorem au_fldU {C a dx : Addr} {H : Hp} {ks : List Str} {vs : List V} {i : Nat} {f : Str} {v y : V} {R : Hp → Prop} (nd : ks.Nodup) (hk : ks[i]? = some f) (hi : vs[i]? = some v) (hz : ks.length ≤ 900)
    (q : R (upd H a (.ins C dx (ks.zip (vs.set i y))))) :
    ∃ dx' fs', upd H a (.ins C dx (ks.zip vs)) a = some (.ins C dx' fs') ∧ fs'.length < 1000 ∧ R (upd (upd H a (.ins C dx (ks.zip vs))) a (.ins C dx' (putF f y fs'))) :=
  ⟨dx, _, upd_same, zip_len hz, by rw [upd_upd, putF_zip nd hk (List.getElem?_eq_some_iff.mp hi).1]; exact q⟩
end L2
namespace L2
open PySem PySem.Spec PyProof.Rows
theorem blk_of {X : Cx} {N : List Str} {sc scope : Scope} {own : List (Str × Nat)} (hN : X.N = N) (hs : X.env.scope = sc) (ok : BlkOk N sc scope own) : BlkOk X.N X.env.scope scope own := by
  rw [hN, hs]
  exact ok
end L2
namespace L2
open PySem PySem.Spec PyProof.Rows
section
variable {X : Cx} {K : PySem.W.Frag}
/-- within a comprehension: the same rules, the module's fragment named -/
theorem pe_gseqB {x : Str} {pos : Pos} {ns : List Int} (hK : X.K = K) (hg : Gl X x) (h : GlT K X.mg x ns) (hd : (x == ("__debug__" : Str)) = false := by decide) : PE X (.Name x pos) (tGs K ns) := by
  subst hK
  exact pe_gseq hg h hd
theorem ix_tupB (hK : X.K = K) : IxR X (rIxT K) := by
  subst hK
  exact ix_tup
theorem ix_listB (hK : X.K = K) : IxR X (rIxL K) := by
  subst hK
  exact ix_list
theorem pe_fldB {e : Expr} {f : Str} {pos : Pos} {ta : TE} (hK : X.K = K) (he : PE X e ta) (hb : attributeBase e f X.env (eval e X.env) = eval e X.env) : PE X (.Attribute e f pos) (tFld K ta f) := by
  subst hK
  exact pe_fld he hb
end
end L2
namespace L2
open PySem PySem.Spec PyProof.Rows
/-- o.f += e, the reading, just behind a store -/
theorem rd_augU {K : PySem.W.Frag} {C a dx : Addr} {H : Hp} {ks : List Str} {vs : List V} {i : Nat} {f : Str} {v : V} {Q : Addr → Addr → V → Prop} (cl : Cls K C) (no : NoAttr K C f) (nd : ks.Nodup) (hk : ks[i]? = some f) (hv : vs[i]? = some v) (q : Q a C v) :
    ∃ a' C' dx' fs v', V.ref a = .ref a' ∧ upd H a (.ins C dx (ks.zip vs)) a' = some (.ins C' dx' fs) ∧ Cls K C' ∧ NoAttr K C' f ∧ fs.lookup f = some v' ∧ Q a' C' v' :=
  ⟨a, C, dx, _, v, rfl, upd_same, cl, no, lookup_zip nd hk hv, q⟩
end L2
namespace L2
open PySem PySem.Spec PyProof.Rows
/-- a new attribute, the heap behind it without its form -/
theorem st_newK {K : PySem.W.Frag} {C a dx : Addr} {H : Hp} {ks : List Str} {vs : List V} {f : Str} {y : V} {R : Hp → Prop} (h : H a = some (.ins C dx (ks.zip vs))) (cl : Cls K C) (no : NoAttr K C f) (nd : ks.Nodup) (hk : ks[vs.length]? = some f) (hz : ks.length ≤ 900)
    (q : ∀ H', H' a = some (.ins C dx (ks.zip (vs ++ [y]))) → (∀ b, b ≠ a → H' b = H b) → R H') :
    ∃ a' C' dx' fs, V.ref a = .ref a' ∧ H a' = some (.ins C' dx' fs) ∧ Cls K C' ∧ NoAttr K C' f ∧ fs.length < 1000 ∧ R (upd H a' (.ins C' dx' (putF f y fs))) :=
  ⟨a, C, dx, _, rfl, h, cl, no, zip_len hz, by rw [putF_grow nd hk]; exact q _ upd_same fun b hb => upd_ne hb⟩
end L2
namespace L2
open PySem PySem.Spec PyProof.Rows
/-- a store, the heap behind it without its form -/
theorem st_fldK {K : PySem.W.Frag} {C a dx : Addr} {H : Hp} {ks : List Str} {vs : List V} {i : Nat} {f : Str} {v y : V} {R : Hp → Prop} (h : H a = some (.ins C dx (ks.zip vs))) (cl : Cls K C) (no : NoAttr K C f) (nd : ks.Nodup) (hk : ks[i]? = some f) (hi : vs[i]? = some v) (hz : ks.length ≤ 900)
    (q : ∀ H', H' a = some (.ins C dx (ks.zip (vs.set i y))) → (∀ b, b ≠ a → H' b = H b) → R H') :
    ∃ a' C' dx' fs, V.ref a = .ref a' ∧ H a' = some (.ins C' dx' fs) ∧ Cls K C' ∧ NoAttr K C' f ∧ fs.length < 1000 ∧ R (upd H a' (.ins C' dx' (putF f y fs))) :=
  st_fld (R := R) h cl no nd hk hi hz (q _ upd_same fun b hb => upd_ne hb)
end L2

namespace Prog
open PySem L2
def top (i : Nat) : Stmt := PySem.Challenge.pw_threecards_s01_answers.main.body.getD i (.Pass ⟨0, 0, 0, 0⟩)
abbrev s_speak : Stmt := top 27
theorem sc_speak : FnScope ["game", "x"] ["game", "x"] (defScope s_speak) := ⟨rfl, rfl, rfl, by decide +kernel, rfl, by decide +kernel, by decide +kernel⟩
abbrev s_say_value : Stmt := top 28
theorem sc_say_value : FnScope ["game", "x"] ["game", "x"] (defScope s_say_value) := ⟨rfl, rfl, rfl, by decide +kernel, rfl, by decide +kernel, by decide +kernel⟩
abbrev s_reply : Stmt := top 29
theorem sc_reply : FnScope ["game", "x"] ["game", "x"] (defScope s_reply) := ⟨rfl, rfl, rfl, by decide +kernel, rfl, by decide +kernel, by decide +kernel⟩
abbrev s_say_last_word : Stmt := top 30
theorem sc_say_last_word : FnScope ["game", "x"] ["game", "x"] (defScope s_say_last_word) := ⟨rfl, rfl, rfl, by decide +kernel, rfl, by decide +kernel, by decide +kernel⟩
abbrev s_go_on_with : Stmt := top 31
theorem sc_go_on_with : FnScope ["game", "left"] ["game", "left"] (defScope s_go_on_with) := ⟨rfl, rfl, rfl, by decide +kernel, rfl, by decide +kernel, by decide +kernel⟩
abbrev s_play_alone : Stmt := top 32
theorem sc_play_alone : FnScope ["game", "who"] ["game", "who"] (defScope s_play_alone) := ⟨rfl, rfl, rfl, by decide +kernel, rfl, by decide +kernel, by decide +kernel⟩
abbrev s_set_of : Stmt := top 38
theorem sc_set_of : FnScope ["cards", "bits", "card"] ["cards"] (defScope s_set_of) := ⟨rfl, rfl, rfl, by decide +kernel, rfl, by decide +kernel, by decide +kernel⟩
abbrev s_holds : Stmt := top 39
theorem sc_holds : FnScope ["bits", "card"] ["bits", "card"] (defScope s_holds) := ⟨rfl, rfl, rfl, by decide +kernel, rfl, by decide +kernel, by decide +kernel⟩
abbrev s_cards_in : Stmt := top 40
theorem sc_cards_in : FnScope ["bits", "cards"] ["bits"] (defScope s_cards_in) := ⟨rfl, rfl, rfl, by decide +kernel, rfl, by decide +kernel, by decide +kernel⟩
abbrev s_counted : Stmt := top 41
theorem sc_counted : FnScope ["bits"] ["bits"] (defScope s_counted) := ⟨rfl, rfl, rfl, by decide +kernel, rfl, by decide +kernel, by decide +kernel⟩
abbrev s_points_of : Stmt := top 42
theorem sc_points_of : FnScope ["cards", "card"] ["cards"] (defScope s_points_of) := ⟨rfl, rfl, rfl, by decide +kernel, rfl, by decide +kernel, by decide +kernel⟩
abbrev s_is_whole_deck : Stmt := top 43
theorem sc_is_whole_deck : FnScope ["cards"] ["cards"] (defScope s_is_whole_deck) := ⟨rfl, rfl, rfl, by decide +kernel, rfl, by decide +kernel, by decide +kernel⟩
abbrev s_take : Stmt := top 48
theorem sc_take : FnScope ["game", "yes"] ["game", "yes"] (defScope s_take) := ⟨rfl, rfl, rfl, by decide +kernel, rfl, by decide +kernel, by decide +kernel⟩
abbrev s_lay : Stmt := top 49
theorem sc_lay : FnScope ["game", "a", "b", "hand"] ["game", "a", "b"] (defScope s_lay) := ⟨rfl, rfl, rfl, by decide +kernel, rfl, by decide +kernel, by decide +kernel⟩
abbrev s_declare : Stmt := top 50
theorem sc_declare : FnScope ["game", "declared", "said"] ["game", "declared", "said"] (defScope s_declare) := ⟨rfl, rfl, rfl, by decide +kernel, rfl, by decide +kernel, by decide +kernel⟩
abbrev s_sayable : Stmt := top 51
theorem sc_sayable : FnScope ["declared", "from_hand"] ["declared", "from_hand"] (defScope s_sayable) := ⟨rfl, rfl, rfl, by decide +kernel, rfl, by decide +kernel, by decide +kernel⟩
abbrev s_trumps : Stmt := top 56
theorem sc_trumps : FnScope ["declared"] ["declared"] (defScope s_trumps) := ⟨rfl, rfl, rfl, by decide +kernel, rfl, by decide +kernel, by decide +kernel⟩
abbrev s_cards_of_suit : Stmt := top 57
theorem sc_cards_of_suit : FnScope ["suit", "ranks", "rank"] ["suit", "ranks"] (defScope s_cards_of_suit) := ⟨rfl, rfl, rfl, by decide +kernel, rfl, by decide +kernel, by decide +kernel⟩
abbrev s_followers : Stmt := top 58
theorem sc_followers : FnScope ["declared", "led", "ranks"] ["declared", "led"] (defScope s_followers) := ⟨rfl, rfl, rfl, by decide +kernel, rfl, by decide +kernel, by decide +kernel⟩
abbrev s_playable : Stmt := top 59
theorem sc_playable : FnScope ["hand", "following"] ["hand", "following"] (defScope s_playable) := ⟨rfl, rfl, rfl, by decide +kernel, rfl, by decide +kernel, by decide +kernel⟩
abbrev s_playable_in_trick : Stmt := top 60
theorem sc_playable_in_trick : FnScope ["declared", "hand", "trick"] ["declared", "hand", "trick"] (defScope s_playable_in_trick) := ⟨rfl, rfl, rfl, by decide +kernel, rfl, by decide +kernel, by decide +kernel⟩
abbrev s_strengths : Stmt := top 61
theorem sc_strengths : FnScope ["declared", "led", "strong", "place", "card"] ["declared", "led"] (defScope s_strengths) := ⟨rfl, rfl, rfl, by decide +kernel, rfl, by decide +kernel, by decide +kernel⟩
abbrev s_place_that_takes : Stmt := top 62
theorem sc_place_that_takes : FnScope ["strong", "trick", "shown", "card"] ["strong", "trick"] (defScope s_place_that_takes) := ⟨rfl, rfl, rfl, by decide +kernel, rfl, by decide +kernel, by decide +kernel⟩
abbrev s_whose_turn : Stmt := top 64
theorem sc_whose_turn : FnScope ["game"] ["game"] (defScope s_whose_turn) := ⟨rfl, rfl, rfl, by decide +kernel, rfl, by decide +kernel, by decide +kernel⟩
abbrev s_playable_now : Stmt := top 65
theorem sc_playable_now : FnScope ["game"] ["game"] (defScope s_playable_now) := ⟨rfl, rfl, rfl, by decide +kernel, rfl, by decide +kernel, by decide +kernel⟩
abbrev s_legal : Stmt := top 66
theorem sc_legal : FnScope ["game"] ["game"] (defScope s_legal) := ⟨rfl, rfl, rfl, by decide +kernel, rfl, by decide +kernel, by decide +kernel⟩
abbrev s_play : Stmt := top 67
theorem sc_play : FnScope ["game", "card", "who"] ["game", "card"] (defScope s_play) := ⟨rfl, rfl, rfl, by decide +kernel, rfl, by decide +kernel, by decide +kernel⟩
abbrev s_end_trick : Stmt := top 68
theorem sc_end_trick : FnScope ["game", "place"] ["game"] (defScope s_end_trick) := ⟨rfl, rfl, rfl, by decide +kernel, rfl, by decide +kernel, by decide +kernel⟩
abbrev s_is_played_out : Stmt := top 69
theorem sc_is_played_out : FnScope ["game"] ["game"] (defScope s_is_played_out) := ⟨rfl, rfl, rfl, by decide +kernel, rfl, by decide +kernel, by decide +kernel⟩
abbrev s_points_so_far : Stmt := top 70
theorem sc_points_so_far : FnScope ["game"] ["game"] (defScope s_points_so_far) := ⟨rfl, rfl, rfl, by decide +kernel, rfl, by decide +kernel, by decide +kernel⟩
abbrev s_Ending_init : Stmt := inClass (top 73) 0
theorem sc_Ending_init : FnScope ["self", "game", "led"] ["self", "game"] (defScope s_Ending_init) := ⟨rfl, rfl, rfl, by decide +kernel, rfl, by decide +kernel, by decide +kernel⟩
abbrev s_sure : Stmt := top 74
theorem sc_sure : FnScope ["game", "left", "comes"] ["game"] (defScope s_sure) := ⟨rfl, rfl, rfl, by decide +kernel, rfl, by decide +kernel, by decide +kernel⟩
abbrev s_best_in_trick : Stmt := top 75
theorem sc_best_in_trick : FnScope ["ending", "left", "trick", "who", "low", "high", "best", "card", "comes"] ["ending", "left", "trick", "who", "low", "high"] (defScope s_best_in_trick) := ⟨rfl, rfl, rfl, by decide +kernel, rfl, by decide +kernel, by decide +kernel⟩
abbrev s_playable_here : Stmt := top 76
theorem sc_playable_here : FnScope ["ending", "left", "trick", "who", "hand"] ["ending", "left", "trick", "who"] (defScope s_playable_here) := ⟨rfl, rfl, rfl, by decide +kernel, rfl, by decide +kernel, by decide +kernel⟩
abbrev s_after_trick : Stmt := top 77
theorem sc_after_trick : FnScope ["ending", "left", "trick", "leader", "low", "high", "taker", "gained"] ["ending", "left", "trick", "leader", "low", "high"] (defScope s_after_trick) := ⟨rfl, rfl, rfl, by decide +kernel, rfl, by decide +kernel, by decide +kernel⟩
abbrev s_best_from : Stmt := top 78
theorem sc_best_from : FnScope ["ending", "left", "leader", "low", "high", "bounds", "floor", "roof", "best"] ["ending", "left", "leader", "low", "high"] (defScope s_best_from) := ⟨rfl, rfl, rfl, by decide +kernel, rfl, by decide +kernel, by decide +kernel⟩
abbrev s_Game_init : Stmt := inClass (top 80) 0
theorem sc_Game_init : FnScope ["self", "cards"] ["self", "cards"] (defScope s_Game_init) := ⟨rfl, rfl, rfl, by decide +kernel, rfl, by decide +kernel, by decide +kernel⟩
abbrev s_result : Stmt := top 84
theorem sc_result : FnScope ["game", "comes_to"] ["game"] (defScope s_result) := ⟨rfl, rfl, rfl, by decide +kernel, rfl, by decide +kernel, by decide +kernel⟩
abbrev s_reckoned : Stmt := top 85
theorem sc_reckoned : FnScope ["game", "worth"] ["game"] (defScope s_reckoned) := ⟨rfl, rfl, rfl, by decide +kernel, rfl, by decide +kernel, by decide +kernel⟩
abbrev s_least_multiple : Stmt := top 86
theorem sc_least_multiple : FnScope ["base", "bid"] ["base", "bid"] (defScope s_least_multiple) := ⟨rfl, rfl, rfl, by decide +kernel, rfl, by decide +kernel, by decide +kernel⟩
abbrev s_worth_of : Stmt := top 87
theorem sc_worth_of : FnScope ["game"] ["game"] (defScope s_worth_of) := ⟨rfl, rfl, rfl, by decide +kernel, rfl, by decide +kernel, by decide +kernel⟩
abbrev s_worth_of_null : Stmt := top 88
theorem sc_worth_of_null : FnScope ["game"] ["game"] (defScope s_worth_of_null) := ⟨rfl, rfl, rfl, by decide +kernel, rfl, by decide +kernel, by decide +kernel⟩
abbrev s_times : Stmt := top 89
theorem sc_times : FnScope ["game", "points", "schneider_said", "schwarz_said", "more"] ["game"] (defScope s_times) := ⟨rfl, rfl, rfl, by decide +kernel, rfl, by decide +kernel, by decide +kernel⟩
abbrev s_tops : Stmt := top 90
theorem sc_tops : FnScope ["game", "order", "with_highest", "found"] ["game"] (defScope s_tops) := ⟨rfl, rfl, rfl, by decide +kernel, rfl, by decide +kernel, by decide +kernel⟩
abbrev s_is_won : Stmt := top 91
theorem sc_is_won : FnScope ["game"] ["game"] (defScope s_is_won) := ⟨rfl, rfl, rfl, by decide +kernel, rfl, by decide +kernel, by decide +kernel⟩
abbrev s_has_said : Stmt := top 92
theorem sc_has_said : FnScope ["game", "what"] ["game", "what"] (defScope s_has_said) := ⟨rfl, rfl, rfl, by decide +kernel, rfl, by decide +kernel, by decide +kernel⟩
abbrev s_hand : Stmt := top 94
theorem sc_hand : FnScope ["game", "who"] ["game", "who"] (defScope s_hand) := ⟨rfl, rfl, rfl, by decide +kernel, rfl, by decide +kernel, by decide +kernel⟩
abbrev s_state : Stmt := top 95
theorem sc_state : FnScope ["game", "points"] ["game"] (defScope s_state) := ⟨rfl, rfl, rfl, by decide +kernel, rfl, by decide +kernel, by decide +kernel⟩
abbrev s_who_acts : Stmt := top 96
theorem sc_who_acts : FnScope ["game"] ["game"] (defScope s_who_acts) := ⟨rfl, rfl, rfl, by decide +kernel, rfl, by decide +kernel, by decide +kernel⟩
abbrev s_Desk_init : Stmt := inClass (top 110) 0
theorem sc_Desk_init : FnScope ["self"] ["self"] (defScope s_Desk_init) := ⟨rfl, rfl, rfl, by decide +kernel, rfl, by decide +kernel, by decide +kernel⟩
abbrev s_answers : Stmt := top 111
theorem sc_answers : FnScope ["calls", "desk", "given", "at", "end", "answer"] ["calls"] (defScope s_answers) := ⟨rfl, rfl, rfl, by decide +kernel, rfl, by decide +kernel, by decide +kernel⟩
abbrev s_end_of_call : Stmt := top 112
theorem sc_end_of_call : FnScope ["calls", "at"] ["calls", "at"] (defScope s_end_of_call) := ⟨rfl, rfl, rfl, by decide +kernel, rfl, by decide +kernel, by decide +kernel⟩
abbrev s_answer_call : Stmt := top 113
theorem sc_answer_call : FnScope ["desk", "call"] ["desk", "call"] (defScope s_answer_call) := ⟨rfl, rfl, rfl, by decide +kernel, rfl, by decide +kernel, by decide +kernel⟩
abbrev s_deal : Stmt := top 114
theorem sc_deal : FnScope ["desk", "cards"] ["desk", "cards"] (defScope s_deal) := ⟨rfl, rfl, rfl, by decide +kernel, rfl, by decide +kernel, by decide +kernel⟩
abbrev s_move : Stmt := top 115
theorem sc_move : FnScope ["game", "call"] ["game", "call"] (defScope s_move) := ⟨rfl, rfl, rfl, by decide +kernel, rfl, by decide +kernel, by decide +kernel⟩
abbrev s_tell : Stmt := top 116
theorem sc_tell : FnScope ["game", "call"] ["game", "call"] (defScope s_tell) := ⟨rfl, rfl, rfl, by decide +kernel, rfl, by decide +kernel, by decide +kernel⟩
def ks_Ending : List Str := ["null", "alone", "hands", "following", "strong", "most", "bounds"]
theorem nd_Ending : ks_Ending.Nodup := by decide +kernel
def ks_Game : List Str := ["hands", "away", "phase", "bidder", "hearer", "bid", "alone", "had", "from_hand", "declared", "said", "leader", "trick", "taken", "tricks", "ending"]
theorem nd_Game : ks_Game.Nodup := by decide +kernel
def ks_Desk : List Str := ["game"]
theorem nd_Desk : ks_Desk.Nodup := by decide +kernel
set_option genInjectivity false in
set_option genSizeOf false in
/-- what the proofs lean on of the text as it stands behind the top -/
structure Txt (K : PySem.W.Frag) (mg : Str → Option Value) where
  c_DONE : GlI mg "DONE" 0
  c_REFUSED : GlI mg "REFUSED" (-1)
  c_TOO_MANY_CARDS : GlI mg "TOO_MANY_CARDS" (-2)
  c_NO_GAME : GlI mg "NO_GAME" (-4)
  c_VALUE_AWAITED : GlI mg "VALUE_AWAITED" 0
  c_REPLY_AWAITED : GlI mg "REPLY_AWAITED" 1
  c_LAST_WORD_AWAITED : GlI mg "LAST_WORD_AWAITED" 2
  c_TAKING_AWAITED : GlI mg "TAKING_AWAITED" 3
  c_LAYING_AWAITED : GlI mg "LAYING_AWAITED" 4
  c_DECLARATION_AWAITED : GlI mg "DECLARATION_AWAITED" 5
  c_PLAYING : GlI mg "PLAYING" 6
  c_OVER : GlI mg "OVER" 7
  c_PLAYERS : GlI mg "PLAYERS" 3
  c_NOBODY : GlI mg "NOBODY" 3
  c_AWAY : GlI mg "AWAY" 3
  c_GRAND : GlI mg "GRAND" 4
  c_NULL : GlI mg "NULL" 5
  c_SAID_SCHNEIDER : GlI mg "SAID_SCHNEIDER" 1
  c_SAID_SCHWARZ : GlI mg "SAID_SCHWARZ" 2
  c_SAID_OPEN : GlI mg "SAID_OPEN" 4
  c_PASS : GlI mg "PASS" 0
  c_HOLD : GlI mg "HOLD" 1
  c_LAST_WORD : GlI mg "LAST_WORD" 18
  c_SECOND_BIDDER : GlI mg "SECOND_BIDDER" 2
  c_ALL_CARDS : GlI mg "ALL_CARDS" 32
  c_RANKS_OF_A_SUIT : GlI mg "RANKS_OF_A_SUIT" 8
  c_ALL_POINTS : GlI mg "ALL_POINTS" 120
  c_MOST_CARDS : GlI mg "MOST_CARDS" 15
  c_ALL_TRICKS : GlI mg "ALL_TRICKS" 10
  c_BEGIN : GlI mg "BEGIN" 0
  c_DEAL : GlI mg "DEAL" 1
  c_SPEAK : GlI mg "SPEAK" 2
  c_TAKE : GlI mg "TAKE" 3
  c_LAY : GlI mg "LAY" 4
  c_DECLARE : GlI mg "DECLARE" 5
  c_PLAY : GlI mg "PLAY" 6
  c_LEGAL : GlI mg "LEGAL" 7
  c_HAND : GlI mg "HAND" 8
  c_STATE : GlI mg "STATE" 9
  c_RESULT : GlI mg "RESULT" 10
  c_GAMES : GlT K mg "GAMES" [0, 1, 2, 3, 4, 5]
  c_VALUES : GlT K mg "VALUES" [18, 20, 22, 23, 24, 27, 30, 33, 35, 36, 40, 44, 45, 46, 48, 50, 54, 55, 59, 60, 63, 66, 70, 72, 77, 80, 81, 84, 88, 90, 96, 99, 100, 108, 110, 117, 120, 121, 126, 130, 132, 135, 140, 143, 144, 150, 153, 154, 156, 160, 162, 165, 168, 170, 176, 180, 187, 192, 198, 204, 216, 240, 264]
  c_POINTS : GlT K mg "POINTS" [0, 0, 0, 3, 4, 10, 11, 2]
  c_SAID_IN_NULL : GlT K mg "SAID_IN_NULL" [0, 4]
  c_SAID_FROM_HAND : GlT K mg "SAID_FROM_HAND" [0, 1, 3, 7]
  c_SAID_WITH_CARDS_TAKEN : GlT K mg "SAID_WITH_CARDS_TAKEN" [0]
  c_JACKS : GlT K mg "JACKS" [31, 23, 15, 7]
  c_RANKS : GlT K mg "RANKS" [6, 5, 4, 3, 2, 1, 0]
  c_RANKS_IN_NULL : GlT K mg "RANKS_IN_NULL" [6, 4, 3, 7, 5, 2, 1, 0]
  c_BASES : GlT K mg "BASES" [9, 10, 11, 12, 24, 23]
  c_NUMBERS_TOLD : GlT K mg "NUMBERS_TOLD" [0, 0, 1, 1, 2, 2, 1, 0, 1, 0, 0, 0]
  d_speak : Defn K mg "speak" s_speak ["game", "x"]
  d_say_value : Defn K mg "say_value" s_say_value ["game", "x"]
  d_reply : Defn K mg "reply" s_reply ["game", "x"]
  d_say_last_word : Defn K mg "say_last_word" s_say_last_word ["game", "x"]
  d_go_on_with : Defn K mg "go_on_with" s_go_on_with ["game", "left"]
  d_play_alone : Defn K mg "play_alone" s_play_alone ["game", "who"]
  d_set_of : Defn K mg "set_of" s_set_of ["cards"]
  d_holds : Defn K mg "holds" s_holds ["bits", "card"]
  d_cards_in : Defn K mg "cards_in" s_cards_in ["bits"]
  d_counted : Defn K mg "counted" s_counted ["bits"]
  d_points_of : Defn K mg "points_of" s_points_of ["cards"]
  d_is_whole_deck : Defn K mg "is_whole_deck" s_is_whole_deck ["cards"]
  d_take : Defn K mg "take" s_take ["game", "yes"]
  d_lay : Defn K mg "lay" s_lay ["game", "a", "b"]
  d_declare : Defn K mg "declare" s_declare ["game", "declared", "said"]
  d_sayable : Defn K mg "sayable" s_sayable ["declared", "from_hand"]
  d_trumps : Defn K mg "trumps" s_trumps ["declared"]
  d_cards_of_suit : Defn K mg "cards_of_suit" s_cards_of_suit ["suit", "ranks"]
  d_followers : Defn K mg "followers" s_followers ["declared", "led"]
  d_playable : Defn K mg "playable" s_playable ["hand", "following"]
  d_playable_in_trick : Defn K mg "playable_in_trick" s_playable_in_trick ["declared", "hand", "trick"]
  d_strengths : Defn K mg "strengths" s_strengths ["declared", "led"]
  d_place_that_takes : Defn K mg "place_that_takes" s_place_that_takes ["strong", "trick"]
  d_whose_turn : Defn K mg "whose_turn" s_whose_turn ["game"]
  d_playable_now : Defn K mg "playable_now" s_playable_now ["game"]
  d_legal : Defn K mg "legal" s_legal ["game"]
  d_play : Defn K mg "play" s_play ["game", "card"]
  d_end_trick : Defn K mg "end_trick" s_end_trick ["game"]
  d_is_played_out : Defn K mg "is_played_out" s_is_played_out ["game"]
  d_points_so_far : Defn K mg "points_so_far" s_points_so_far ["game"]
  d_sure : Defn K mg "sure" s_sure ["game"]
  d_best_in_trick : Defn K mg "best_in_trick" s_best_in_trick ["ending", "left", "trick", "who", "low", "high"]
  d_playable_here : Defn K mg "playable_here" s_playable_here ["ending", "left", "trick", "who"]
  d_after_trick : Defn K mg "after_trick" s_after_trick ["ending", "left", "trick", "leader", "low", "high"]
  d_best_from : Defn K mg "best_from" s_best_from ["ending", "left", "leader", "low", "high"]
  d_result : Defn K mg "result" s_result ["game"]
  d_reckoned : Defn K mg "reckoned" s_reckoned ["game"]
  d_least_multiple : Defn K mg "least_multiple" s_least_multiple ["base", "bid"]
  d_worth_of : Defn K mg "worth_of" s_worth_of ["game"]
  d_worth_of_null : Defn K mg "worth_of_null" s_worth_of_null ["game"]
  d_times : Defn K mg "times" s_times ["game"]
  d_tops : Defn K mg "tops" s_tops ["game"]
  d_is_won : Defn K mg "is_won" s_is_won ["game"]
  d_has_said : Defn K mg "has_said" s_has_said ["game", "what"]
  d_hand : Defn K mg "hand" s_hand ["game", "who"]
  d_state : Defn K mg "state" s_state ["game"]
  d_who_acts : Defn K mg "who_acts" s_who_acts ["game"]
  d_answers : Defn K mg "answers" s_answers ["calls"]
  d_end_of_call : Defn K mg "end_of_call" s_end_of_call ["calls", "at"]
  d_answer_call : Defn K mg "answer_call" s_answer_call ["desk", "call"]
  d_deal : Defn K mg "deal" s_deal ["desk", "cards"]
  d_move : Defn K mg "move" s_move ["game", "call"]
  d_tell : Defn K mg "tell" s_tell ["game", "call"]
  k_Ending : Klass K mg "Ending" "Ending.__init__" s_Ending_init ["self", "game"] ks_Ending
  k_Game : Klass K mg "Game" "Game.__init__" s_Game_init ["self", "cards"] ks_Game
  k_Desk : Klass K mg "Desk" "Desk.__init__" s_Desk_init ["self"] ks_Desk
  nLen : mg "len" = none
  nMax : mg "max" = none
  nMin : mg "min" = none
  nSorted : mg "sorted" = none
  nList : mg "list" = none
  nRange : mg "range" = none
  nSum : mg "sum" = none
  nAbs : mg "abs" = none
  nEnumerate : mg "enumerate" = none
theorem txt_mk {K : PySem.W.Frag} {h : Heap} {mg : Str → Option Value} (X : K.In h) (G : h.Ns mainGlobals mg)
    {t_DONE : Tok} (a_DONE : PySem.W.nsIn K mainGlobals "DONE" = some (some (.int 0 t_DONE)))
    {t_REFUSED : Tok} (a_REFUSED : PySem.W.nsIn K mainGlobals "REFUSED" = some (some (.int (-1) t_REFUSED)))
    {t_TOO_MANY_CARDS : Tok} (a_TOO_MANY_CARDS : PySem.W.nsIn K mainGlobals "TOO_MANY_CARDS" = some (some (.int (-2) t_TOO_MANY_CARDS)))
    {t_NO_GAME : Tok} (a_NO_GAME : PySem.W.nsIn K mainGlobals "NO_GAME" = some (some (.int (-4) t_NO_GAME)))
    {t_VALUE_AWAITED : Tok} (a_VALUE_AWAITED : PySem.W.nsIn K mainGlobals "VALUE_AWAITED" = some (some (.int 0 t_VALUE_AWAITED)))
    {t_REPLY_AWAITED : Tok} (a_REPLY_AWAITED : PySem.W.nsIn K mainGlobals "REPLY_AWAITED" = some (some (.int 1 t_REPLY_AWAITED)))
    {t_LAST_WORD_AWAITED : Tok} (a_LAST_WORD_AWAITED : PySem.W.nsIn K mainGlobals "LAST_WORD_AWAITED" = some (some (.int 2 t_LAST_WORD_AWAITED)))
    {t_TAKING_AWAITED : Tok} (a_TAKING_AWAITED : PySem.W.nsIn K mainGlobals "TAKING_AWAITED" = some (some (.int 3 t_TAKING_AWAITED)))
    {t_LAYING_AWAITED : Tok} (a_LAYING_AWAITED : PySem.W.nsIn K mainGlobals "LAYING_AWAITED" = some (some (.int 4 t_LAYING_AWAITED)))
    {t_DECLARATION_AWAITED : Tok} (a_DECLARATION_AWAITED : PySem.W.nsIn K mainGlobals "DECLARATION_AWAITED" = some (some (.int 5 t_DECLARATION_AWAITED)))
    {t_PLAYING : Tok} (a_PLAYING : PySem.W.nsIn K mainGlobals "PLAYING" = some (some (.int 6 t_PLAYING)))
    {t_OVER : Tok} (a_OVER : PySem.W.nsIn K mainGlobals "OVER" = some (some (.int 7 t_OVER)))
    {t_PLAYERS : Tok} (a_PLAYERS : PySem.W.nsIn K mainGlobals "PLAYERS" = some (some (.int 3 t_PLAYERS)))
    {t_NOBODY : Tok} (a_NOBODY : PySem.W.nsIn K mainGlobals "NOBODY" = some (some (.int 3 t_NOBODY)))
    {t_AWAY : Tok} (a_AWAY : PySem.W.nsIn K mainGlobals "AWAY" = some (some (.int 3 t_AWAY)))
    {t_GRAND : Tok} (a_GRAND : PySem.W.nsIn K mainGlobals "GRAND" = some (some (.int 4 t_GRAND)))
    {t_NULL : Tok} (a_NULL : PySem.W.nsIn K mainGlobals "NULL" = some (some (.int 5 t_NULL)))
    {t_SAID_SCHNEIDER : Tok} (a_SAID_SCHNEIDER : PySem.W.nsIn K mainGlobals "SAID_SCHNEIDER" = some (some (.int 1 t_SAID_SCHNEIDER)))
    {t_SAID_SCHWARZ : Tok} (a_SAID_SCHWARZ : PySem.W.nsIn K mainGlobals "SAID_SCHWARZ" = some (some (.int 2 t_SAID_SCHWARZ)))
    {t_SAID_OPEN : Tok} (a_SAID_OPEN : PySem.W.nsIn K mainGlobals "SAID_OPEN" = some (some (.int 4 t_SAID_OPEN)))
    {t_PASS : Tok} (a_PASS : PySem.W.nsIn K mainGlobals "PASS" = some (some (.int 0 t_PASS)))
    {t_HOLD : Tok} (a_HOLD : PySem.W.nsIn K mainGlobals "HOLD" = some (some (.int 1 t_HOLD)))
    {t_LAST_WORD : Tok} (a_LAST_WORD : PySem.W.nsIn K mainGlobals "LAST_WORD" = some (some (.int 18 t_LAST_WORD)))
    {t_SECOND_BIDDER : Tok} (a_SECOND_BIDDER : PySem.W.nsIn K mainGlobals "SECOND_BIDDER" = some (some (.int 2 t_SECOND_BIDDER)))
    {t_ALL_CARDS : Tok} (a_ALL_CARDS : PySem.W.nsIn K mainGlobals "ALL_CARDS" = some (some (.int 32 t_ALL_CARDS)))
    {t_RANKS_OF_A_SUIT : Tok} (a_RANKS_OF_A_SUIT : PySem.W.nsIn K mainGlobals "RANKS_OF_A_SUIT" = some (some (.int 8 t_RANKS_OF_A_SUIT)))
    {t_ALL_POINTS : Tok} (a_ALL_POINTS : PySem.W.nsIn K mainGlobals "ALL_POINTS" = some (some (.int 120 t_ALL_POINTS)))
    {t_MOST_CARDS : Tok} (a_MOST_CARDS : PySem.W.nsIn K mainGlobals "MOST_CARDS" = some (some (.int 15 t_MOST_CARDS)))
    {t_ALL_TRICKS : Tok} (a_ALL_TRICKS : PySem.W.nsIn K mainGlobals "ALL_TRICKS" = some (some (.int 10 t_ALL_TRICKS)))
    {t_BEGIN : Tok} (a_BEGIN : PySem.W.nsIn K mainGlobals "BEGIN" = some (some (.int 0 t_BEGIN)))
    {t_DEAL : Tok} (a_DEAL : PySem.W.nsIn K mainGlobals "DEAL" = some (some (.int 1 t_DEAL)))
    {t_SPEAK : Tok} (a_SPEAK : PySem.W.nsIn K mainGlobals "SPEAK" = some (some (.int 2 t_SPEAK)))
    {t_TAKE : Tok} (a_TAKE : PySem.W.nsIn K mainGlobals "TAKE" = some (some (.int 3 t_TAKE)))
    {t_LAY : Tok} (a_LAY : PySem.W.nsIn K mainGlobals "LAY" = some (some (.int 4 t_LAY)))
    {t_DECLARE : Tok} (a_DECLARE : PySem.W.nsIn K mainGlobals "DECLARE" = some (some (.int 5 t_DECLARE)))
    {t_PLAY : Tok} (a_PLAY : PySem.W.nsIn K mainGlobals "PLAY" = some (some (.int 6 t_PLAY)))
    {t_LEGAL : Tok} (a_LEGAL : PySem.W.nsIn K mainGlobals "LEGAL" = some (some (.int 7 t_LEGAL)))
    {t_HAND : Tok} (a_HAND : PySem.W.nsIn K mainGlobals "HAND" = some (some (.int 8 t_HAND)))
    {t_STATE : Tok} (a_STATE : PySem.W.nsIn K mainGlobals "STATE" = some (some (.int 9 t_STATE)))
    {t_RESULT : Tok} (a_RESULT : PySem.W.nsIn K mainGlobals "RESULT" = some (some (.int 10 t_RESULT)))
    {r_GAMES : Addr} {its_GAMES : Array Value} {m_GAMES : Nat} {od_GAMES : Option Addr} {sl_GAMES : Array (Option Value)} (a_GAMES : PySem.W.nsIn K mainGlobals "GAMES" = some (some (.ref r_GAMES))) (l_GAMES : K.lookup r_GAMES = some ⟨.type "tuple", od_GAMES, .seq its_GAMES m_GAMES, sl_GAMES⟩) (v_GAMES : intsOf its_GAMES.toList = some [0, 1, 2, 3, 4, 5])
    {r_VALUES : Addr} {its_VALUES : Array Value} {m_VALUES : Nat} {od_VALUES : Option Addr} {sl_VALUES : Array (Option Value)} (a_VALUES : PySem.W.nsIn K mainGlobals "VALUES" = some (some (.ref r_VALUES))) (l_VALUES : K.lookup r_VALUES = some ⟨.type "tuple", od_VALUES, .seq its_VALUES m_VALUES, sl_VALUES⟩) (v_VALUES : intsOf its_VALUES.toList = some [18, 20, 22, 23, 24, 27, 30, 33, 35, 36, 40, 44, 45, 46, 48, 50, 54, 55, 59, 60, 63, 66, 70, 72, 77, 80, 81, 84, 88, 90, 96, 99, 100, 108, 110, 117, 120, 121, 126, 130, 132, 135, 140, 143, 144, 150, 153, 154, 156, 160, 162, 165, 168, 170, 176, 180, 187, 192, 198, 204, 216, 240, 264])
    {r_POINTS : Addr} {its_POINTS : Array Value} {m_POINTS : Nat} {od_POINTS : Option Addr} {sl_POINTS : Array (Option Value)} (a_POINTS : PySem.W.nsIn K mainGlobals "POINTS" = some (some (.ref r_POINTS))) (l_POINTS : K.lookup r_POINTS = some ⟨.type "tuple", od_POINTS, .seq its_POINTS m_POINTS, sl_POINTS⟩) (v_POINTS : intsOf its_POINTS.toList = some [0, 0, 0, 3, 4, 10, 11, 2])
    {r_SAID_IN_NULL : Addr} {its_SAID_IN_NULL : Array Value} {m_SAID_IN_NULL : Nat} {od_SAID_IN_NULL : Option Addr} {sl_SAID_IN_NULL : Array (Option Value)} (a_SAID_IN_NULL : PySem.W.nsIn K mainGlobals "SAID_IN_NULL" = some (some (.ref r_SAID_IN_NULL))) (l_SAID_IN_NULL : K.lookup r_SAID_IN_NULL = some ⟨.type "tuple", od_SAID_IN_NULL, .seq its_SAID_IN_NULL m_SAID_IN_NULL, sl_SAID_IN_NULL⟩) (v_SAID_IN_NULL : intsOf its_SAID_IN_NULL.toList = some [0, 4])
    {r_SAID_FROM_HAND : Addr} {its_SAID_FROM_HAND : Array Value} {m_SAID_FROM_HAND : Nat} {od_SAID_FROM_HAND : Option Addr} {sl_SAID_FROM_HAND : Array (Option Value)} (a_SAID_FROM_HAND : PySem.W.nsIn K mainGlobals "SAID_FROM_HAND" = some (some (.ref r_SAID_FROM_HAND))) (l_SAID_FROM_HAND : K.lookup r_SAID_FROM_HAND = some ⟨.type "tuple", od_SAID_FROM_HAND, .seq its_SAID_FROM_HAND m_SAID_FROM_HAND, sl_SAID_FROM_HAND⟩) (v_SAID_FROM_HAND : intsOf its_SAID_FROM_HAND.toList = some [0, 1, 3, 7])
    {r_SAID_WITH_CARDS_TAKEN : Addr} {its_SAID_WITH_CARDS_TAKEN : Array Value} {m_SAID_WITH_CARDS_TAKEN : Nat} {od_SAID_WITH_CARDS_TAKEN : Option Addr} {sl_SAID_WITH_CARDS_TAKEN : Array (Option Value)} (a_SAID_WITH_CARDS_TAKEN : PySem.W.nsIn K mainGlobals "SAID_WITH_CARDS_TAKEN" = some (some (.ref r_SAID_WITH_CARDS_TAKEN))) (l_SAID_WITH_CARDS_TAKEN : K.lookup r_SAID_WITH_CARDS_TAKEN = some ⟨.type "tuple", od_SAID_WITH_CARDS_TAKEN, .seq its_SAID_WITH_CARDS_TAKEN m_SAID_WITH_CARDS_TAKEN, sl_SAID_WITH_CARDS_TAKEN⟩) (v_SAID_WITH_CARDS_TAKEN : intsOf its_SAID_WITH_CARDS_TAKEN.toList = some [0])
    {r_JACKS : Addr} {its_JACKS : Array Value} {m_JACKS : Nat} {od_JACKS : Option Addr} {sl_JACKS : Array (Option Value)} (a_JACKS : PySem.W.nsIn K mainGlobals "JACKS" = some (some (.ref r_JACKS))) (l_JACKS : K.lookup r_JACKS = some ⟨.type "tuple", od_JACKS, .seq its_JACKS m_JACKS, sl_JACKS⟩) (v_JACKS : intsOf its_JACKS.toList = some [31, 23, 15, 7])
    {r_RANKS : Addr} {its_RANKS : Array Value} {m_RANKS : Nat} {od_RANKS : Option Addr} {sl_RANKS : Array (Option Value)} (a_RANKS : PySem.W.nsIn K mainGlobals "RANKS" = some (some (.ref r_RANKS))) (l_RANKS : K.lookup r_RANKS = some ⟨.type "tuple", od_RANKS, .seq its_RANKS m_RANKS, sl_RANKS⟩) (v_RANKS : intsOf its_RANKS.toList = some [6, 5, 4, 3, 2, 1, 0])
    {r_RANKS_IN_NULL : Addr} {its_RANKS_IN_NULL : Array Value} {m_RANKS_IN_NULL : Nat} {od_RANKS_IN_NULL : Option Addr} {sl_RANKS_IN_NULL : Array (Option Value)} (a_RANKS_IN_NULL : PySem.W.nsIn K mainGlobals "RANKS_IN_NULL" = some (some (.ref r_RANKS_IN_NULL))) (l_RANKS_IN_NULL : K.lookup r_RANKS_IN_NULL = some ⟨.type "tuple", od_RANKS_IN_NULL, .seq its_RANKS_IN_NULL m_RANKS_IN_NULL, sl_RANKS_IN_NULL⟩) (v_RANKS_IN_NULL : intsOf its_RANKS_IN_NULL.toList = some [6, 4, 3, 7, 5, 2, 1, 0])
    {r_BASES : Addr} {its_BASES : Array Value} {m_BASES : Nat} {od_BASES : Option Addr} {sl_BASES : Array (Option Value)} (a_BASES : PySem.W.nsIn K mainGlobals "BASES" = some (some (.ref r_BASES))) (l_BASES : K.lookup r_BASES = some ⟨.type "tuple", od_BASES, .seq its_BASES m_BASES, sl_BASES⟩) (v_BASES : intsOf its_BASES.toList = some [9, 10, 11, 12, 24, 23])
    {r_NUMBERS_TOLD : Addr} {its_NUMBERS_TOLD : Array Value} {m_NUMBERS_TOLD : Nat} {od_NUMBERS_TOLD : Option Addr} {sl_NUMBERS_TOLD : Array (Option Value)} (a_NUMBERS_TOLD : PySem.W.nsIn K mainGlobals "NUMBERS_TOLD" = some (some (.ref r_NUMBERS_TOLD))) (l_NUMBERS_TOLD : K.lookup r_NUMBERS_TOLD = some ⟨.type "tuple", od_NUMBERS_TOLD, .seq its_NUMBERS_TOLD m_NUMBERS_TOLD, sl_NUMBERS_TOLD⟩) (v_NUMBERS_TOLD : intsOf its_NUMBERS_TOLD.toList = some [0, 0, 1, 1, 2, 2, 1, 0, 1, 0, 0, 0])
    {f_speak : Addr} {oc_speak : Value} {od_speak an_speak : Option Addr} {sl_speak : Array (Option Value)} {kV_speak dc_speak pm_speak cd_speak ct_speak : Value} (a_speak : PySem.W.nsIn K mainGlobals "speak" = some (some (.ref f_speak))) (l_speak : K.lookup f_speak = some ⟨oc_speak, od_speak, .func (PySem.W.fnOf "speak" "speak" (defArgs s_speak) (defBody s_speak) (defScope s_speak) .none kV_speak dc_speak pm_speak an_speak cd_speak ct_speak), sl_speak⟩) (c_speak : PySem.W.codeIn K cd_speak "speak" = true) (k_speak : PySem.W.keepIn K (.ref f_speak) = true)
    {f_say_value : Addr} {oc_say_value : Value} {od_say_value an_say_value : Option Addr} {sl_say_value : Array (Option Value)} {kV_say_value dc_say_value pm_say_value cd_say_value ct_say_value : Value} (a_say_value : PySem.W.nsIn K mainGlobals "say_value" = some (some (.ref f_say_value))) (l_say_value : K.lookup f_say_value = some ⟨oc_say_value, od_say_value, .func (PySem.W.fnOf "say_value" "say_value" (defArgs s_say_value) (defBody s_say_value) (defScope s_say_value) .none kV_say_value dc_say_value pm_say_value an_say_value cd_say_value ct_say_value), sl_say_value⟩) (c_say_value : PySem.W.codeIn K cd_say_value "say_value" = true) (k_say_value : PySem.W.keepIn K (.ref f_say_value) = true)
    {f_reply : Addr} {oc_reply : Value} {od_reply an_reply : Option Addr} {sl_reply : Array (Option Value)} {kV_reply dc_reply pm_reply cd_reply ct_reply : Value} (a_reply : PySem.W.nsIn K mainGlobals "reply" = some (some (.ref f_reply))) (l_reply : K.lookup f_reply = some ⟨oc_reply, od_reply, .func (PySem.W.fnOf "reply" "reply" (defArgs s_reply) (defBody s_reply) (defScope s_reply) .none kV_reply dc_reply pm_reply an_reply cd_reply ct_reply), sl_reply⟩) (c_reply : PySem.W.codeIn K cd_reply "reply" = true) (k_reply : PySem.W.keepIn K (.ref f_reply) = true)
    {f_say_last_word : Addr} {oc_say_last_word : Value} {od_say_last_word an_say_last_word : Option Addr} {sl_say_last_word : Array (Option Value)} {kV_say_last_word dc_say_last_word pm_say_last_word cd_say_last_word ct_say_last_word : Value} (a_say_last_word : PySem.W.nsIn K mainGlobals "say_last_word" = some (some (.ref f_say_last_word))) (l_say_last_word : K.lookup f_say_last_word = some ⟨oc_say_last_word, od_say_last_word, .func (PySem.W.fnOf "say_last_word" "say_last_word" (defArgs s_say_last_word) (defBody s_say_last_word) (defScope s_say_last_word) .none kV_say_last_word dc_say_last_word pm_say_last_word an_say_last_word cd_say_last_word ct_say_last_word), sl_say_last_word⟩) (c_say_last_word : PySem.W.codeIn K cd_say_last_word "say_last_word" = true) (k_say_last_word : PySem.W.keepIn K (.ref f_say_last_word) = true)
    {f_go_on_with : Addr} {oc_go_on_with : Value} {od_go_on_with an_go_on_with : Option Addr} {sl_go_on_with : Array (Option Value)} {kV_go_on_with dc_go_on_with pm_go_on_with cd_go_on_with ct_go_on_with : Value} (a_go_on_with : PySem.W.nsIn K mainGlobals "go_on_with" = some (some (.ref f_go_on_with))) (l_go_on_with : K.lookup f_go_on_with = some ⟨oc_go_on_with, od_go_on_with, .func (PySem.W.fnOf "go_on_with" "go_on_with" (defArgs s_go_on_with) (defBody s_go_on_with) (defScope s_go_on_with) .none kV_go_on_with dc_go_on_with pm_go_on_with an_go_on_with cd_go_on_with ct_go_on_with), sl_go_on_with⟩) (c_go_on_with : PySem.W.codeIn K cd_go_on_with "go_on_with" = true) (k_go_on_with : PySem.W.keepIn K (.ref f_go_on_with) = true)
    {f_play_alone : Addr} {oc_play_alone : Value} {od_play_alone an_play_alone : Option Addr} {sl_play_alone : Array (Option Value)} {kV_play_alone dc_play_alone pm_play_alone cd_play_alone ct_play_alone : Value} (a_play_alone : PySem.W.nsIn K mainGlobals "play_alone" = some (some (.ref f_play_alone))) (l_play_alone : K.lookup f_play_alone = some ⟨oc_play_alone, od_play_alone, .func (PySem.W.fnOf "play_alone" "play_alone" (defArgs s_play_alone) (defBody s_play_alone) (defScope s_play_alone) .none kV_play_alone dc_play_alone pm_play_alone an_play_alone cd_play_alone ct_play_alone), sl_play_alone⟩) (c_play_alone : PySem.W.codeIn K cd_play_alone "play_alone" = true) (k_play_alone : PySem.W.keepIn K (.ref f_play_alone) = true)
    {f_set_of : Addr} {oc_set_of : Value} {od_set_of an_set_of : Option Addr} {sl_set_of : Array (Option Value)} {kV_set_of dc_set_of pm_set_of cd_set_of ct_set_of : Value} (a_set_of : PySem.W.nsIn K mainGlobals "set_of" = some (some (.ref f_set_of))) (l_set_of : K.lookup f_set_of = some ⟨oc_set_of, od_set_of, .func (PySem.W.fnOf "set_of" "set_of" (defArgs s_set_of) (defBody s_set_of) (defScope s_set_of) .none kV_set_of dc_set_of pm_set_of an_set_of cd_set_of ct_set_of), sl_set_of⟩) (c_set_of : PySem.W.codeIn K cd_set_of "set_of" = true) (k_set_of : PySem.W.keepIn K (.ref f_set_of) = true)
    {f_holds : Addr} {oc_holds : Value} {od_holds an_holds : Option Addr} {sl_holds : Array (Option Value)} {kV_holds dc_holds pm_holds cd_holds ct_holds : Value} (a_holds : PySem.W.nsIn K mainGlobals "holds" = some (some (.ref f_holds))) (l_holds : K.lookup f_holds = some ⟨oc_holds, od_holds, .func (PySem.W.fnOf "holds" "holds" (defArgs s_holds) (defBody s_holds) (defScope s_holds) .none kV_holds dc_holds pm_holds an_holds cd_holds ct_holds), sl_holds⟩) (c_holds : PySem.W.codeIn K cd_holds "holds" = true) (k_holds : PySem.W.keepIn K (.ref f_holds) = true)
    {f_cards_in : Addr} {oc_cards_in : Value} {od_cards_in an_cards_in : Option Addr} {sl_cards_in : Array (Option Value)} {kV_cards_in dc_cards_in pm_cards_in cd_cards_in ct_cards_in : Value} (a_cards_in : PySem.W.nsIn K mainGlobals "cards_in" = some (some (.ref f_cards_in))) (l_cards_in : K.lookup f_cards_in = some ⟨oc_cards_in, od_cards_in, .func (PySem.W.fnOf "cards_in" "cards_in" (defArgs s_cards_in) (defBody s_cards_in) (defScope s_cards_in) .none kV_cards_in dc_cards_in pm_cards_in an_cards_in cd_cards_in ct_cards_in), sl_cards_in⟩) (c_cards_in : PySem.W.codeIn K cd_cards_in "cards_in" = true) (k_cards_in : PySem.W.keepIn K (.ref f_cards_in) = true)
    {f_counted : Addr} {oc_counted : Value} {od_counted an_counted : Option Addr} {sl_counted : Array (Option Value)} {kV_counted dc_counted pm_counted cd_counted ct_counted : Value} (a_counted : PySem.W.nsIn K mainGlobals "counted" = some (some (.ref f_counted))) (l_counted : K.lookup f_counted = some ⟨oc_counted, od_counted, .func (PySem.W.fnOf "counted" "counted" (defArgs s_counted) (defBody s_counted) (defScope s_counted) .none kV_counted dc_counted pm_counted an_counted cd_counted ct_counted), sl_counted⟩) (c_counted : PySem.W.codeIn K cd_counted "counted" = true) (k_counted : PySem.W.keepIn K (.ref f_counted) = true)
    {f_points_of : Addr} {oc_points_of : Value} {od_points_of an_points_of : Option Addr} {sl_points_of : Array (Option Value)} {kV_points_of dc_points_of pm_points_of cd_points_of ct_points_of : Value} (a_points_of : PySem.W.nsIn K mainGlobals "points_of" = some (some (.ref f_points_of))) (l_points_of : K.lookup f_points_of = some ⟨oc_points_of, od_points_of, .func (PySem.W.fnOf "points_of" "points_of" (defArgs s_points_of) (defBody s_points_of) (defScope s_points_of) .none kV_points_of dc_points_of pm_points_of an_points_of cd_points_of ct_points_of), sl_points_of⟩) (c_points_of : PySem.W.codeIn K cd_points_of "points_of" = true) (k_points_of : PySem.W.keepIn K (.ref f_points_of) = true)
    {f_is_whole_deck : Addr} {oc_is_whole_deck : Value} {od_is_whole_deck an_is_whole_deck : Option Addr} {sl_is_whole_deck : Array (Option Value)} {kV_is_whole_deck dc_is_whole_deck pm_is_whole_deck cd_is_whole_deck ct_is_whole_deck : Value} (a_is_whole_deck : PySem.W.nsIn K mainGlobals "is_whole_deck" = some (some (.ref f_is_whole_deck))) (l_is_whole_deck : K.lookup f_is_whole_deck = some ⟨oc_is_whole_deck, od_is_whole_deck, .func (PySem.W.fnOf "is_whole_deck" "is_whole_deck" (defArgs s_is_whole_deck) (defBody s_is_whole_deck) (defScope s_is_whole_deck) .none kV_is_whole_deck dc_is_whole_deck pm_is_whole_deck an_is_whole_deck cd_is_whole_deck ct_is_whole_deck), sl_is_whole_deck⟩) (c_is_whole_deck : PySem.W.codeIn K cd_is_whole_deck "is_whole_deck" = true) (k_is_whole_deck : PySem.W.keepIn K (.ref f_is_whole_deck) = true)
    {f_take : Addr} {oc_take : Value} {od_take an_take : Option Addr} {sl_take : Array (Option Value)} {kV_take dc_take pm_take cd_take ct_take : Value} (a_take : PySem.W.nsIn K mainGlobals "take" = some (some (.ref f_take))) (l_take : K.lookup f_take = some ⟨oc_take, od_take, .func (PySem.W.fnOf "take" "take" (defArgs s_take) (defBody s_take) (defScope s_take) .none kV_take dc_take pm_take an_take cd_take ct_take), sl_take⟩) (c_take : PySem.W.codeIn K cd_take "take" = true) (k_take : PySem.W.keepIn K (.ref f_take) = true)
    {f_lay : Addr} {oc_lay : Value} {od_lay an_lay : Option Addr} {sl_lay : Array (Option Value)} {kV_lay dc_lay pm_lay cd_lay ct_lay : Value} (a_lay : PySem.W.nsIn K mainGlobals "lay" = some (some (.ref f_lay))) (l_lay : K.lookup f_lay = some ⟨oc_lay, od_lay, .func (PySem.W.fnOf "lay" "lay" (defArgs s_lay) (defBody s_lay) (defScope s_lay) .none kV_lay dc_lay pm_lay an_lay cd_lay ct_lay), sl_lay⟩) (c_lay : PySem.W.codeIn K cd_lay "lay" = true) (k_lay : PySem.W.keepIn K (.ref f_lay) = true)
    {f_declare : Addr} {oc_declare : Value} {od_declare an_declare : Option Addr} {sl_declare : Array (Option Value)} {kV_declare dc_declare pm_declare cd_declare ct_declare : Value} (a_declare : PySem.W.nsIn K mainGlobals "declare" = some (some (.ref f_declare))) (l_declare : K.lookup f_declare = some ⟨oc_declare, od_declare, .func (PySem.W.fnOf "declare" "declare" (defArgs s_declare) (defBody s_declare) (defScope s_declare) .none kV_declare dc_declare pm_declare an_declare cd_declare ct_declare), sl_declare⟩) (c_declare : PySem.W.codeIn K cd_declare "declare" = true) (k_declare : PySem.W.keepIn K (.ref f_declare) = true)
    {f_sayable : Addr} {oc_sayable : Value} {od_sayable an_sayable : Option Addr} {sl_sayable : Array (Option Value)} {kV_sayable dc_sayable pm_sayable cd_sayable ct_sayable : Value} (a_sayable : PySem.W.nsIn K mainGlobals "sayable" = some (some (.ref f_sayable))) (l_sayable : K.lookup f_sayable = some ⟨oc_sayable, od_sayable, .func (PySem.W.fnOf "sayable" "sayable" (defArgs s_sayable) (defBody s_sayable) (defScope s_sayable) .none kV_sayable dc_sayable pm_sayable an_sayable cd_sayable ct_sayable), sl_sayable⟩) (c_sayable : PySem.W.codeIn K cd_sayable "sayable" = true) (k_sayable : PySem.W.keepIn K (.ref f_sayable) = true)
    {f_trumps : Addr} {oc_trumps : Value} {od_trumps an_trumps : Option Addr} {sl_trumps : Array (Option Value)} {kV_trumps dc_trumps pm_trumps cd_trumps ct_trumps : Value} (a_trumps : PySem.W.nsIn K mainGlobals "trumps" = some (some (.ref f_trumps))) (l_trumps : K.lookup f_trumps = some ⟨oc_trumps, od_trumps, .func (PySem.W.fnOf "trumps" "trumps" (defArgs s_trumps) (defBody s_trumps) (defScope s_trumps) .none kV_trumps dc_trumps pm_trumps an_trumps cd_trumps ct_trumps), sl_trumps⟩) (c_trumps : PySem.W.codeIn K cd_trumps "trumps" = true) (k_trumps : PySem.W.keepIn K (.ref f_trumps) = true)
    {f_cards_of_suit : Addr} {oc_cards_of_suit : Value} {od_cards_of_suit an_cards_of_suit : Option Addr} {sl_cards_of_suit : Array (Option Value)} {kV_cards_of_suit dc_cards_of_suit pm_cards_of_suit cd_cards_of_suit ct_cards_of_suit : Value} (a_cards_of_suit : PySem.W.nsIn K mainGlobals "cards_of_suit" = some (some (.ref f_cards_of_suit))) (l_cards_of_suit : K.lookup f_cards_of_suit = some ⟨oc_cards_of_suit, od_cards_of_suit, .func (PySem.W.fnOf "cards_of_suit" "cards_of_suit" (defArgs s_cards_of_suit) (defBody s_cards_of_suit) (defScope s_cards_of_suit) .none kV_cards_of_suit dc_cards_of_suit pm_cards_of_suit an_cards_of_suit cd_cards_of_suit ct_cards_of_suit), sl_cards_of_suit⟩) (c_cards_of_suit : PySem.W.codeIn K cd_cards_of_suit "cards_of_suit" = true) (k_cards_of_suit : PySem.W.keepIn K (.ref f_cards_of_suit) = true)
    {f_followers : Addr} {oc_followers : Value} {od_followers an_followers : Option Addr} {sl_followers : Array (Option Value)} {kV_followers dc_followers pm_followers cd_followers ct_followers : Value} (a_followers : PySem.W.nsIn K mainGlobals "followers" = some (some (.ref f_followers))) (l_followers : K.lookup f_followers = some ⟨oc_followers, od_followers, .func (PySem.W.fnOf "followers" "followers" (defArgs s_followers) (defBody s_followers) (defScope s_followers) .none kV_followers dc_followers pm_followers an_followers cd_followers ct_followers), sl_followers⟩) (c_followers : PySem.W.codeIn K cd_followers "followers" = true) (k_followers : PySem.W.keepIn K (.ref f_followers) = true)
    {f_playable : Addr} {oc_playable : Value} {od_playable an_playable : Option Addr} {sl_playable : Array (Option Value)} {kV_playable dc_playable pm_playable cd_playable ct_playable : Value} (a_playable : PySem.W.nsIn K mainGlobals "playable" = some (some (.ref f_playable))) (l_playable : K.lookup f_playable = some ⟨oc_playable, od_playable, .func (PySem.W.fnOf "playable" "playable" (defArgs s_playable) (defBody s_playable) (defScope s_playable) .none kV_playable dc_playable pm_playable an_playable cd_playable ct_playable), sl_playable⟩) (c_playable : PySem.W.codeIn K cd_playable "playable" = true) (k_playable : PySem.W.keepIn K (.ref f_playable) = true)
    {f_playable_in_trick : Addr} {oc_playable_in_trick : Value} {od_playable_in_trick an_playable_in_trick : Option Addr} {sl_playable_in_trick : Array (Option Value)} {kV_playable_in_trick dc_playable_in_trick pm_playable_in_trick cd_playable_in_trick ct_playable_in_trick : Value} (a_playable_in_trick : PySem.W.nsIn K mainGlobals "playable_in_trick" = some (some (.ref f_playable_in_trick))) (l_playable_in_trick : K.lookup f_playable_in_trick = some ⟨oc_playable_in_trick, od_playable_in_trick, .func (PySem.W.fnOf "playable_in_trick" "playable_in_trick" (defArgs s_playable_in_trick) (defBody s_playable_in_trick) (defScope s_playable_in_trick) .none kV_playable_in_trick dc_playable_in_trick pm_playable_in_trick an_playable_in_trick cd_playable_in_trick ct_playable_in_trick), sl_playable_in_trick⟩) (c_playable_in_trick : PySem.W.codeIn K cd_playable_in_trick "playable_in_trick" = true) (k_playable_in_trick : PySem.W.keepIn K (.ref f_playable_in_trick) = true)
    {f_strengths : Addr} {oc_strengths : Value} {od_strengths an_strengths : Option Addr} {sl_strengths : Array (Option Value)} {kV_strengths dc_strengths pm_strengths cd_strengths ct_strengths : Value} (a_strengths : PySem.W.nsIn K mainGlobals "strengths" = some (some (.ref f_strengths))) (l_strengths : K.lookup f_strengths = some ⟨oc_strengths, od_strengths, .func (PySem.W.fnOf "strengths" "strengths" (defArgs s_strengths) (defBody s_strengths) (defScope s_strengths) .none kV_strengths dc_strengths pm_strengths an_strengths cd_strengths ct_strengths), sl_strengths⟩) (c_strengths : PySem.W.codeIn K cd_strengths "strengths" = true) (k_strengths : PySem.W.keepIn K (.ref f_strengths) = true)
    {f_place_that_takes : Addr} {oc_place_that_takes : Value} {od_place_that_takes an_place_that_takes : Option Addr} {sl_place_that_takes : Array (Option Value)} {kV_place_that_takes dc_place_that_takes pm_place_that_takes cd_place_that_takes ct_place_that_takes : Value} (a_place_that_takes : PySem.W.nsIn K mainGlobals "place_that_takes" = some (some (.ref f_place_that_takes))) (l_place_that_takes : K.lookup f_place_that_takes = some ⟨oc_place_that_takes, od_place_that_takes, .func (PySem.W.fnOf "place_that_takes" "place_that_takes" (defArgs s_place_that_takes) (defBody s_place_that_takes) (defScope s_place_that_takes) .none kV_place_that_takes dc_place_that_takes pm_place_that_takes an_place_that_takes cd_place_that_takes ct_place_that_takes), sl_place_that_takes⟩) (c_place_that_takes : PySem.W.codeIn K cd_place_that_takes "place_that_takes" = true) (k_place_that_takes : PySem.W.keepIn K (.ref f_place_that_takes) = true)
    {f_whose_turn : Addr} {oc_whose_turn : Value} {od_whose_turn an_whose_turn : Option Addr} {sl_whose_turn : Array (Option Value)} {kV_whose_turn dc_whose_turn pm_whose_turn cd_whose_turn ct_whose_turn : Value} (a_whose_turn : PySem.W.nsIn K mainGlobals "whose_turn" = some (some (.ref f_whose_turn))) (l_whose_turn : K.lookup f_whose_turn = some ⟨oc_whose_turn, od_whose_turn, .func (PySem.W.fnOf "whose_turn" "whose_turn" (defArgs s_whose_turn) (defBody s_whose_turn) (defScope s_whose_turn) .none kV_whose_turn dc_whose_turn pm_whose_turn an_whose_turn cd_whose_turn ct_whose_turn), sl_whose_turn⟩) (c_whose_turn : PySem.W.codeIn K cd_whose_turn "whose_turn" = true) (k_whose_turn : PySem.W.keepIn K (.ref f_whose_turn) = true)
    {f_playable_now : Addr} {oc_playable_now : Value} {od_playable_now an_playable_now : Option Addr} {sl_playable_now : Array (Option Value)} {kV_playable_now dc_playable_now pm_playable_now cd_playable_now ct_playable_now : Value} (a_playable_now : PySem.W.nsIn K mainGlobals "playable_now" = some (some (.ref f_playable_now))) (l_playable_now : K.lookup f_playable_now = some ⟨oc_playable_now, od_playable_now, .func (PySem.W.fnOf "playable_now" "playable_now" (defArgs s_playable_now) (defBody s_playable_now) (defScope s_playable_now) .none kV_playable_now dc_playable_now pm_playable_now an_playable_now cd_playable_now ct_playable_now), sl_playable_now⟩) (c_playable_now : PySem.W.codeIn K cd_playable_now "playable_now" = true) (k_playable_now : PySem.W.keepIn K (.ref f_playable_now) = true)
    {f_legal : Addr} {oc_legal : Value} {od_legal an_legal : Option Addr} {sl_legal : Array (Option Value)} {kV_legal dc_legal pm_legal cd_legal ct_legal : Value} (a_legal : PySem.W.nsIn K mainGlobals "legal" = some (some (.ref f_legal))) (l_legal : K.lookup f_legal = some ⟨oc_legal, od_legal, .func (PySem.W.fnOf "legal" "legal" (defArgs s_legal) (defBody s_legal) (defScope s_legal) .none kV_legal dc_legal pm_legal an_legal cd_legal ct_legal), sl_legal⟩) (c_legal : PySem.W.codeIn K cd_legal "legal" = true) (k_legal : PySem.W.keepIn K (.ref f_legal) = true)
    {f_play : Addr} {oc_play : Value} {od_play an_play : Option Addr} {sl_play : Array (Option Value)} {kV_play dc_play pm_play cd_play ct_play : Value} (a_play : PySem.W.nsIn K mainGlobals "play" = some (some (.ref f_play))) (l_play : K.lookup f_play = some ⟨oc_play, od_play, .func (PySem.W.fnOf "play" "play" (defArgs s_play) (defBody s_play) (defScope s_play) .none kV_play dc_play pm_play an_play cd_play ct_play), sl_play⟩) (c_play : PySem.W.codeIn K cd_play "play" = true) (k_play : PySem.W.keepIn K (.ref f_play) = true)
    {f_end_trick : Addr} {oc_end_trick : Value} {od_end_trick an_end_trick : Option Addr} {sl_end_trick : Array (Option Value)} {kV_end_trick dc_end_trick pm_end_trick cd_end_trick ct_end_trick : Value} (a_end_trick : PySem.W.nsIn K mainGlobals "end_trick" = some (some (.ref f_end_trick))) (l_end_trick : K.lookup f_end_trick = some ⟨oc_end_trick, od_end_trick, .func (PySem.W.fnOf "end_trick" "end_trick" (defArgs s_end_trick) (defBody s_end_trick) (defScope s_end_trick) .none kV_end_trick dc_end_trick pm_end_trick an_end_trick cd_end_trick ct_end_trick), sl_end_trick⟩) (c_end_trick : PySem.W.codeIn K cd_end_trick "end_trick" = true) (k_end_trick : PySem.W.keepIn K (.ref f_end_trick) = true)
    {f_is_played_out : Addr} {oc_is_played_out : Value} {od_is_played_out an_is_played_out : Option Addr} {sl_is_played_out : Array (Option Value)} {kV_is_played_out dc_is_played_out pm_is_played_out cd_is_played_out ct_is_played_out : Value} (a_is_played_out : PySem.W.nsIn K mainGlobals "is_played_out" = some (some (.ref f_is_played_out))) (l_is_played_out : K.lookup f_is_played_out = some ⟨oc_is_played_out, od_is_played_out, .func (PySem.W.fnOf "is_played_out" "is_played_out" (defArgs s_is_played_out) (defBody s_is_played_out) (defScope s_is_played_out) .none kV_is_played_out dc_is_played_out pm_is_played_out an_is_played_out cd_is_played_out ct_is_played_out), sl_is_played_out⟩) (c_is_played_out : PySem.W.codeIn K cd_is_played_out "is_played_out" = true) (k_is_played_out : PySem.W.keepIn K (.ref f_is_played_out) = true)
    {f_points_so_far : Addr} {oc_points_so_far : Value} {od_points_so_far an_points_so_far : Option Addr} {sl_points_so_far : Array (Option Value)} {kV_points_so_far dc_points_so_far pm_points_so_far cd_points_so_far ct_points_so_far : Value} (a_points_so_far : PySem.W.nsIn K mainGlobals "points_so_far" = some (some (.ref f_points_so_far))) (l_points_so_far : K.lookup f_points_so_far = some ⟨oc_points_so_far, od_points_so_far, .func (PySem.W.fnOf "points_so_far" "points_so_far" (defArgs s_points_so_far) (defBody s_points_so_far) (defScope s_points_so_far) .none kV_points_so_far dc_points_so_far pm_points_so_far an_points_so_far cd_points_so_far ct_points_so_far), sl_points_so_far⟩) (c_points_so_far : PySem.W.codeIn K cd_points_so_far "points_so_far" = true) (k_points_so_far : PySem.W.keepIn K (.ref f_points_so_far) = true)
    {f_sure : Addr} {oc_sure : Value} {od_sure an_sure : Option Addr} {sl_sure : Array (Option Value)} {kV_sure dc_sure pm_sure cd_sure ct_sure : Value} (a_sure : PySem.W.nsIn K mainGlobals "sure" = some (some (.ref f_sure))) (l_sure : K.lookup f_sure = some ⟨oc_sure, od_sure, .func (PySem.W.fnOf "sure" "sure" (defArgs s_sure) (defBody s_sure) (defScope s_sure) .none kV_sure dc_sure pm_sure an_sure cd_sure ct_sure), sl_sure⟩) (c_sure : PySem.W.codeIn K cd_sure "sure" = true) (k_sure : PySem.W.keepIn K (.ref f_sure) = true)
    {f_best_in_trick : Addr} {oc_best_in_trick : Value} {od_best_in_trick an_best_in_trick : Option Addr} {sl_best_in_trick : Array (Option Value)} {kV_best_in_trick dc_best_in_trick pm_best_in_trick cd_best_in_trick ct_best_in_trick : Value} (a_best_in_trick : PySem.W.nsIn K mainGlobals "best_in_trick" = some (some (.ref f_best_in_trick))) (l_best_in_trick : K.lookup f_best_in_trick = some ⟨oc_best_in_trick, od_best_in_trick, .func (PySem.W.fnOf "best_in_trick" "best_in_trick" (defArgs s_best_in_trick) (defBody s_best_in_trick) (defScope s_best_in_trick) .none kV_best_in_trick dc_best_in_trick pm_best_in_trick an_best_in_trick cd_best_in_trick ct_best_in_trick), sl_best_in_trick⟩) (c_best_in_trick : PySem.W.codeIn K cd_best_in_trick "best_in_trick" = true) (k_best_in_trick : PySem.W.keepIn K (.ref f_best_in_trick) = true)
    {f_playable_here : Addr} {oc_playable_here : Value} {od_playable_here an_playable_here : Option Addr} {sl_playable_here : Array (Option Value)} {kV_playable_here dc_playable_here pm_playable_here cd_playable_here ct_playable_here : Value} (a_playable_here : PySem.W.nsIn K mainGlobals "playable_here" = some (some (.ref f_playable_here))) (l_playable_here : K.lookup f_playable_here = some ⟨oc_playable_here, od_playable_here, .func (PySem.W.fnOf "playable_here" "playable_here" (defArgs s_playable_here) (defBody s_playable_here) (defScope s_playable_here) .none kV_playable_here dc_playable_here pm_playable_here an_playable_here cd_playable_here ct_playable_here), sl_playable_here⟩) (c_playable_here : PySem.W.codeIn K cd_playable_here "playable_here" = true) (k_playable_here : PySem.W.keepIn K (.ref f_playable_here) = true)
    {f_after_trick : Addr} {oc_after_trick : Value} {od_after_trick an_after_trick : Option Addr} {sl_after_trick : Array (Option Value)} {kV_after_trick dc_after_trick pm_after_trick cd_after_trick ct_after_trick : Value} (a_after_trick : PySem.W.nsIn K mainGlobals "after_trick" = some (some (.ref f_after_trick))) (l_after_trick : K.lookup f_after_trick = some ⟨oc_after_trick, od_after_trick, .func (PySem.W.fnOf "after_trick" "after_trick" (defArgs s_after_trick) (defBody s_after_trick) (defScope s_after_trick) .none kV_after_trick dc_after_trick pm_after_trick an_after_trick cd_after_trick ct_after_trick), sl_after_trick⟩) (c_after_trick : PySem.W.codeIn K cd_after_trick "after_trick" = true) (k_after_trick : PySem.W.keepIn K (.ref f_after_trick) = true)
    {f_best_from : Addr} {oc_best_from : Value} {od_best_from an_best_from : Option Addr} {sl_best_from : Array (Option Value)} {kV_best_from dc_best_from pm_best_from cd_best_from ct_best_from : Value} (a_best_from : PySem.W.nsIn K mainGlobals "best_from" = some (some (.ref f_best_from))) (l_best_from : K.lookup f_best_from = some ⟨oc_best_from, od_best_from, .func (PySem.W.fnOf "best_from" "best_from" (defArgs s_best_from) (defBody s_best_from) (defScope s_best_from) .none kV_best_from dc_best_from pm_best_from an_best_from cd_best_from ct_best_from), sl_best_from⟩) (c_best_from : PySem.W.codeIn K cd_best_from "best_from" = true) (k_best_from : PySem.W.keepIn K (.ref f_best_from) = true)
    {f_result : Addr} {oc_result : Value} {od_result an_result : Option Addr} {sl_result : Array (Option Value)} {kV_result dc_result pm_result cd_result ct_result : Value} (a_result : PySem.W.nsIn K mainGlobals "result" = some (some (.ref f_result))) (l_result : K.lookup f_result = some ⟨oc_result, od_result, .func (PySem.W.fnOf "result" "result" (defArgs s_result) (defBody s_result) (defScope s_result) .none kV_result dc_result pm_result an_result cd_result ct_result), sl_result⟩) (c_result : PySem.W.codeIn K cd_result "result" = true) (k_result : PySem.W.keepIn K (.ref f_result) = true)
    {f_reckoned : Addr} {oc_reckoned : Value} {od_reckoned an_reckoned : Option Addr} {sl_reckoned : Array (Option Value)} {kV_reckoned dc_reckoned pm_reckoned cd_reckoned ct_reckoned : Value} (a_reckoned : PySem.W.nsIn K mainGlobals "reckoned" = some (some (.ref f_reckoned))) (l_reckoned : K.lookup f_reckoned = some ⟨oc_reckoned, od_reckoned, .func (PySem.W.fnOf "reckoned" "reckoned" (defArgs s_reckoned) (defBody s_reckoned) (defScope s_reckoned) .none kV_reckoned dc_reckoned pm_reckoned an_reckoned cd_reckoned ct_reckoned), sl_reckoned⟩) (c_reckoned : PySem.W.codeIn K cd_reckoned "reckoned" = true) (k_reckoned : PySem.W.keepIn K (.ref f_reckoned) = true)
    {f_least_multiple : Addr} {oc_least_multiple : Value} {od_least_multiple an_least_multiple : Option Addr} {sl_least_multiple : Array (Option Value)} {kV_least_multiple dc_least_multiple pm_least_multiple cd_least_multiple ct_least_multiple : Value} (a_least_multiple : PySem.W.nsIn K mainGlobals "least_multiple" = some (some (.ref f_least_multiple))) (l_least_multiple : K.lookup f_least_multiple = some ⟨oc_least_multiple, od_least_multiple, .func (PySem.W.fnOf "least_multiple" "least_multiple" (defArgs s_least_multiple) (defBody s_least_multiple) (defScope s_least_multiple) .none kV_least_multiple dc_least_multiple pm_least_multiple an_least_multiple cd_least_multiple ct_least_multiple), sl_least_multiple⟩) (c_least_multiple : PySem.W.codeIn K cd_least_multiple "least_multiple" = true) (k_least_multiple : PySem.W.keepIn K (.ref f_least_multiple) = true)
    {f_worth_of : Addr} {oc_worth_of : Value} {od_worth_of an_worth_of : Option Addr} {sl_worth_of : Array (Option Value)} {kV_worth_of dc_worth_of pm_worth_of cd_worth_of ct_worth_of : Value} (a_worth_of : PySem.W.nsIn K mainGlobals "worth_of" = some (some (.ref f_worth_of))) (l_worth_of : K.lookup f_worth_of = some ⟨oc_worth_of, od_worth_of, .func (PySem.W.fnOf "worth_of" "worth_of" (defArgs s_worth_of) (defBody s_worth_of) (defScope s_worth_of) .none kV_worth_of dc_worth_of pm_worth_of an_worth_of cd_worth_of ct_worth_of), sl_worth_of⟩) (c_worth_of : PySem.W.codeIn K cd_worth_of "worth_of" = true) (k_worth_of : PySem.W.keepIn K (.ref f_worth_of) = true)
    {f_worth_of_null : Addr} {oc_worth_of_null : Value} {od_worth_of_null an_worth_of_null : Option Addr} {sl_worth_of_null : Array (Option Value)} {kV_worth_of_null dc_worth_of_null pm_worth_of_null cd_worth_of_null ct_worth_of_null : Value} (a_worth_of_null : PySem.W.nsIn K mainGlobals "worth_of_null" = some (some (.ref f_worth_of_null))) (l_worth_of_null : K.lookup f_worth_of_null = some ⟨oc_worth_of_null, od_worth_of_null, .func (PySem.W.fnOf "worth_of_null" "worth_of_null" (defArgs s_worth_of_null) (defBody s_worth_of_null) (defScope s_worth_of_null) .none kV_worth_of_null dc_worth_of_null pm_worth_of_null an_worth_of_null cd_worth_of_null ct_worth_of_null), sl_worth_of_null⟩) (c_worth_of_null : PySem.W.codeIn K cd_worth_of_null "worth_of_null" = true) (k_worth_of_null : PySem.W.keepIn K (.ref f_worth_of_null) = true)
    {f_times : Addr} {oc_times : Value} {od_times an_times : Option Addr} {sl_times : Array (Option Value)} {kV_times dc_times pm_times cd_times ct_times : Value} (a_times : PySem.W.nsIn K mainGlobals "times" = some (some (.ref f_times))) (l_times : K.lookup f_times = some ⟨oc_times, od_times, .func (PySem.W.fnOf "times" "times" (defArgs s_times) (defBody s_times) (defScope s_times) .none kV_times dc_times pm_times an_times cd_times ct_times), sl_times⟩) (c_times : PySem.W.codeIn K cd_times "times" = true) (k_times : PySem.W.keepIn K (.ref f_times) = true)
    {f_tops : Addr} {oc_tops : Value} {od_tops an_tops : Option Addr} {sl_tops : Array (Option Value)} {kV_tops dc_tops pm_tops cd_tops ct_tops : Value} (a_tops : PySem.W.nsIn K mainGlobals "tops" = some (some (.ref f_tops))) (l_tops : K.lookup f_tops = some ⟨oc_tops, od_tops, .func (PySem.W.fnOf "tops" "tops" (defArgs s_tops) (defBody s_tops) (defScope s_tops) .none kV_tops dc_tops pm_tops an_tops cd_tops ct_tops), sl_tops⟩) (c_tops : PySem.W.codeIn K cd_tops "tops" = true) (k_tops : PySem.W.keepIn K (.ref f_tops) = true)
    {f_is_won : Addr} {oc_is_won : Value} {od_is_won an_is_won : Option Addr} {sl_is_won : Array (Option Value)} {kV_is_won dc_is_won pm_is_won cd_is_won ct_is_won : Value} (a_is_won : PySem.W.nsIn K mainGlobals "is_won" = some (some (.ref f_is_won))) (l_is_won : K.lookup f_is_won = some ⟨oc_is_won, od_is_won, .func (PySem.W.fnOf "is_won" "is_won" (defArgs s_is_won) (defBody s_is_won) (defScope s_is_won) .none kV_is_won dc_is_won pm_is_won an_is_won cd_is_won ct_is_won), sl_is_won⟩) (c_is_won : PySem.W.codeIn K cd_is_won "is_won" = true) (k_is_won : PySem.W.keepIn K (.ref f_is_won) = true)
    {f_has_said : Addr} {oc_has_said : Value} {od_has_said an_has_said : Option Addr} {sl_has_said : Array (Option Value)} {kV_has_said dc_has_said pm_has_said cd_has_said ct_has_said : Value} (a_has_said : PySem.W.nsIn K mainGlobals "has_said" = some (some (.ref f_has_said))) (l_has_said : K.lookup f_has_said = some ⟨oc_has_said, od_has_said, .func (PySem.W.fnOf "has_said" "has_said" (defArgs s_has_said) (defBody s_has_said) (defScope s_has_said) .none kV_has_said dc_has_said pm_has_said an_has_said cd_has_said ct_has_said), sl_has_said⟩) (c_has_said : PySem.W.codeIn K cd_has_said "has_said" = true) (k_has_said : PySem.W.keepIn K (.ref f_has_said) = true)
    {f_hand : Addr} {oc_hand : Value} {od_hand an_hand : Option Addr} {sl_hand : Array (Option Value)} {kV_hand dc_hand pm_hand cd_hand ct_hand : Value} (a_hand : PySem.W.nsIn K mainGlobals "hand" = some (some (.ref f_hand))) (l_hand : K.lookup f_hand = some ⟨oc_hand, od_hand, .func (PySem.W.fnOf "hand" "hand" (defArgs s_hand) (defBody s_hand) (defScope s_hand) .none kV_hand dc_hand pm_hand an_hand cd_hand ct_hand), sl_hand⟩) (c_hand : PySem.W.codeIn K cd_hand "hand" = true) (k_hand : PySem.W.keepIn K (.ref f_hand) = true)
    {f_state : Addr} {oc_state : Value} {od_state an_state : Option Addr} {sl_state : Array (Option Value)} {kV_state dc_state pm_state cd_state ct_state : Value} (a_state : PySem.W.nsIn K mainGlobals "state" = some (some (.ref f_state))) (l_state : K.lookup f_state = some ⟨oc_state, od_state, .func (PySem.W.fnOf "state" "state" (defArgs s_state) (defBody s_state) (defScope s_state) .none kV_state dc_state pm_state an_state cd_state ct_state), sl_state⟩) (c_state : PySem.W.codeIn K cd_state "state" = true) (k_state : PySem.W.keepIn K (.ref f_state) = true)
    {f_who_acts : Addr} {oc_who_acts : Value} {od_who_acts an_who_acts : Option Addr} {sl_who_acts : Array (Option Value)} {kV_who_acts dc_who_acts pm_who_acts cd_who_acts ct_who_acts : Value} (a_who_acts : PySem.W.nsIn K mainGlobals "who_acts" = some (some (.ref f_who_acts))) (l_who_acts : K.lookup f_who_acts = some ⟨oc_who_acts, od_who_acts, .func (PySem.W.fnOf "who_acts" "who_acts" (defArgs s_who_acts) (defBody s_who_acts) (defScope s_who_acts) .none kV_who_acts dc_who_acts pm_who_acts an_who_acts cd_who_acts ct_who_acts), sl_who_acts⟩) (c_who_acts : PySem.W.codeIn K cd_who_acts "who_acts" = true) (k_who_acts : PySem.W.keepIn K (.ref f_who_acts) = true)
    {f_answers : Addr} {oc_answers : Value} {od_answers an_answers : Option Addr} {sl_answers : Array (Option Value)} {kV_answers dc_answers pm_answers cd_answers ct_answers : Value} (a_answers : PySem.W.nsIn K mainGlobals "answers" = some (some (.ref f_answers))) (l_answers : K.lookup f_answers = some ⟨oc_answers, od_answers, .func (PySem.W.fnOf "answers" "answers" (defArgs s_answers) (defBody s_answers) (defScope s_answers) .none kV_answers dc_answers pm_answers an_answers cd_answers ct_answers), sl_answers⟩) (c_answers : PySem.W.codeIn K cd_answers "answers" = true) (k_answers : PySem.W.keepIn K (.ref f_answers) = true)
    {f_end_of_call : Addr} {oc_end_of_call : Value} {od_end_of_call an_end_of_call : Option Addr} {sl_end_of_call : Array (Option Value)} {kV_end_of_call dc_end_of_call pm_end_of_call cd_end_of_call ct_end_of_call : Value} (a_end_of_call : PySem.W.nsIn K mainGlobals "end_of_call" = some (some (.ref f_end_of_call))) (l_end_of_call : K.lookup f_end_of_call = some ⟨oc_end_of_call, od_end_of_call, .func (PySem.W.fnOf "end_of_call" "end_of_call" (defArgs s_end_of_call) (defBody s_end_of_call) (defScope s_end_of_call) .none kV_end_of_call dc_end_of_call pm_end_of_call an_end_of_call cd_end_of_call ct_end_of_call), sl_end_of_call⟩) (c_end_of_call : PySem.W.codeIn K cd_end_of_call "end_of_call" = true) (k_end_of_call : PySem.W.keepIn K (.ref f_end_of_call) = true)
    {f_answer_call : Addr} {oc_answer_call : Value} {od_answer_call an_answer_call : Option Addr} {sl_answer_call : Array (Option Value)} {kV_answer_call dc_answer_call pm_answer_call cd_answer_call ct_answer_call : Value} (a_answer_call : PySem.W.nsIn K mainGlobals "answer_call" = some (some (.ref f_answer_call))) (l_answer_call : K.lookup f_answer_call = some ⟨oc_answer_call, od_answer_call, .func (PySem.W.fnOf "answer_call" "answer_call" (defArgs s_answer_call) (defBody s_answer_call) (defScope s_answer_call) .none kV_answer_call dc_answer_call pm_answer_call an_answer_call cd_answer_call ct_answer_call), sl_answer_call⟩) (c_answer_call : PySem.W.codeIn K cd_answer_call "answer_call" = true) (k_answer_call : PySem.W.keepIn K (.ref f_answer_call) = true)
    {f_deal : Addr} {oc_deal : Value} {od_deal an_deal : Option Addr} {sl_deal : Array (Option Value)} {kV_deal dc_deal pm_deal cd_deal ct_deal : Value} (a_deal : PySem.W.nsIn K mainGlobals "deal" = some (some (.ref f_deal))) (l_deal : K.lookup f_deal = some ⟨oc_deal, od_deal, .func (PySem.W.fnOf "deal" "deal" (defArgs s_deal) (defBody s_deal) (defScope s_deal) .none kV_deal dc_deal pm_deal an_deal cd_deal ct_deal), sl_deal⟩) (c_deal : PySem.W.codeIn K cd_deal "deal" = true) (k_deal : PySem.W.keepIn K (.ref f_deal) = true)
    {f_move : Addr} {oc_move : Value} {od_move an_move : Option Addr} {sl_move : Array (Option Value)} {kV_move dc_move pm_move cd_move ct_move : Value} (a_move : PySem.W.nsIn K mainGlobals "move" = some (some (.ref f_move))) (l_move : K.lookup f_move = some ⟨oc_move, od_move, .func (PySem.W.fnOf "move" "move" (defArgs s_move) (defBody s_move) (defScope s_move) .none kV_move dc_move pm_move an_move cd_move ct_move), sl_move⟩) (c_move : PySem.W.codeIn K cd_move "move" = true) (k_move : PySem.W.keepIn K (.ref f_move) = true)
    {f_tell : Addr} {oc_tell : Value} {od_tell an_tell : Option Addr} {sl_tell : Array (Option Value)} {kV_tell dc_tell pm_tell cd_tell ct_tell : Value} (a_tell : PySem.W.nsIn K mainGlobals "tell" = some (some (.ref f_tell))) (l_tell : K.lookup f_tell = some ⟨oc_tell, od_tell, .func (PySem.W.fnOf "tell" "tell" (defArgs s_tell) (defBody s_tell) (defScope s_tell) .none kV_tell dc_tell pm_tell an_tell cd_tell ct_tell), sl_tell⟩) (c_tell : PySem.W.codeIn K cd_tell "tell" = true) (k_tell : PySem.W.keepIn K (.ref f_tell) = true)
    {C_Ending f_Ending : Addr} {oc_Ending : Value} {od_Ending an_Ending : Option Addr} {sl_Ending : Array (Option Value)} {kV_Ending dc_Ending pm_Ending cd_Ending ct_Ending : Value} (a_Ending : PySem.W.nsIn K mainGlobals "Ending" = some (some (.ref C_Ending))) (i_Ending : PySem.W.findIn K (.ref C_Ending) "__init__" = some (some (.ref f_Ending))) (n_Ending : PySem.W.isFn K (.ref f_Ending) = true) (l_Ending : K.lookup f_Ending = some ⟨oc_Ending, od_Ending, .func (PySem.W.fnOf "__init__" "Ending.__init__" (defArgs s_Ending_init) (defBody s_Ending_init) (defScope s_Ending_init) .none kV_Ending dc_Ending pm_Ending an_Ending cd_Ending ct_Ending), sl_Ending⟩) (c_Ending : PySem.W.codeIn K cd_Ending "Ending.__init__" = true) (k_Ending : PySem.W.keepIn K (.ref f_Ending) = true) (pg_Ending : PySem.W.plainGet K C_Ending Str.empty = true) (hd_Ending : PySem.W.hasDictIn K C_Ending = true) (po_Ending : PySem.W.plainOver K C_Ending = true) (sa_Ending : PySem.W.findIn K (.ref C_Ending) "__setattr__" = some (some (.builtin "object.__setattr__"))) (mk_Ending : PySem.W.makesIn K C_Ending = true) (kc_Ending : PySem.W.keepIn K (.ref C_Ending) = true) (no_Ending_0 : PySem.W.findIn K (.ref C_Ending) "null" = some none) (no_Ending_1 : PySem.W.findIn K (.ref C_Ending) "alone" = some none) (no_Ending_2 : PySem.W.findIn K (.ref C_Ending) "hands" = some none) (no_Ending_3 : PySem.W.findIn K (.ref C_Ending) "following" = some none) (no_Ending_4 : PySem.W.findIn K (.ref C_Ending) "strong" = some none) (no_Ending_5 : PySem.W.findIn K (.ref C_Ending) "most" = some none) (no_Ending_6 : PySem.W.findIn K (.ref C_Ending) "bounds" = some none)
    {C_Game f_Game : Addr} {oc_Game : Value} {od_Game an_Game : Option Addr} {sl_Game : Array (Option Value)} {kV_Game dc_Game pm_Game cd_Game ct_Game : Value} (a_Game : PySem.W.nsIn K mainGlobals "Game" = some (some (.ref C_Game))) (i_Game : PySem.W.findIn K (.ref C_Game) "__init__" = some (some (.ref f_Game))) (n_Game : PySem.W.isFn K (.ref f_Game) = true) (l_Game : K.lookup f_Game = some ⟨oc_Game, od_Game, .func (PySem.W.fnOf "__init__" "Game.__init__" (defArgs s_Game_init) (defBody s_Game_init) (defScope s_Game_init) .none kV_Game dc_Game pm_Game an_Game cd_Game ct_Game), sl_Game⟩) (c_Game : PySem.W.codeIn K cd_Game "Game.__init__" = true) (k_Game : PySem.W.keepIn K (.ref f_Game) = true) (pg_Game : PySem.W.plainGet K C_Game Str.empty = true) (hd_Game : PySem.W.hasDictIn K C_Game = true) (po_Game : PySem.W.plainOver K C_Game = true) (sa_Game : PySem.W.findIn K (.ref C_Game) "__setattr__" = some (some (.builtin "object.__setattr__"))) (mk_Game : PySem.W.makesIn K C_Game = true) (kc_Game : PySem.W.keepIn K (.ref C_Game) = true) (no_Game_0 : PySem.W.findIn K (.ref C_Game) "hands" = some none) (no_Game_1 : PySem.W.findIn K (.ref C_Game) "away" = some none) (no_Game_2 : PySem.W.findIn K (.ref C_Game) "phase" = some none) (no_Game_3 : PySem.W.findIn K (.ref C_Game) "bidder" = some none) (no_Game_4 : PySem.W.findIn K (.ref C_Game) "hearer" = some none) (no_Game_5 : PySem.W.findIn K (.ref C_Game) "bid" = some none) (no_Game_6 : PySem.W.findIn K (.ref C_Game) "alone" = some none) (no_Game_7 : PySem.W.findIn K (.ref C_Game) "had" = some none) (no_Game_8 : PySem.W.findIn K (.ref C_Game) "from_hand" = some none) (no_Game_9 : PySem.W.findIn K (.ref C_Game) "declared" = some none) (no_Game_10 : PySem.W.findIn K (.ref C_Game) "said" = some none) (no_Game_11 : PySem.W.findIn K (.ref C_Game) "leader" = some none) (no_Game_12 : PySem.W.findIn K (.ref C_Game) "trick" = some none) (no_Game_13 : PySem.W.findIn K (.ref C_Game) "taken" = some none) (no_Game_14 : PySem.W.findIn K (.ref C_Game) "tricks" = some none) (no_Game_15 : PySem.W.findIn K (.ref C_Game) "ending" = some none)
    {C_Desk f_Desk : Addr} {oc_Desk : Value} {od_Desk an_Desk : Option Addr} {sl_Desk : Array (Option Value)} {kV_Desk dc_Desk pm_Desk cd_Desk ct_Desk : Value} (a_Desk : PySem.W.nsIn K mainGlobals "Desk" = some (some (.ref C_Desk))) (i_Desk : PySem.W.findIn K (.ref C_Desk) "__init__" = some (some (.ref f_Desk))) (n_Desk : PySem.W.isFn K (.ref f_Desk) = true) (l_Desk : K.lookup f_Desk = some ⟨oc_Desk, od_Desk, .func (PySem.W.fnOf "__init__" "Desk.__init__" (defArgs s_Desk_init) (defBody s_Desk_init) (defScope s_Desk_init) .none kV_Desk dc_Desk pm_Desk an_Desk cd_Desk ct_Desk), sl_Desk⟩) (c_Desk : PySem.W.codeIn K cd_Desk "Desk.__init__" = true) (k_Desk : PySem.W.keepIn K (.ref f_Desk) = true) (pg_Desk : PySem.W.plainGet K C_Desk Str.empty = true) (hd_Desk : PySem.W.hasDictIn K C_Desk = true) (po_Desk : PySem.W.plainOver K C_Desk = true) (sa_Desk : PySem.W.findIn K (.ref C_Desk) "__setattr__" = some (some (.builtin "object.__setattr__"))) (mk_Desk : PySem.W.makesIn K C_Desk = true) (kc_Desk : PySem.W.keepIn K (.ref C_Desk) = true) (no_Desk_0 : PySem.W.findIn K (.ref C_Desk) "game" = some none)
    (b_len : PySem.W.nsIn K mainGlobals "len" = some none)
    (b_max : PySem.W.nsIn K mainGlobals "max" = some none)
    (b_min : PySem.W.nsIn K mainGlobals "min" = some none)
    (b_sorted : PySem.W.nsIn K mainGlobals "sorted" = some none)
    (b_list : PySem.W.nsIn K mainGlobals "list" = some none)
    (b_range : PySem.W.nsIn K mainGlobals "range" = some none)
    (b_sum : PySem.W.nsIn K mainGlobals "sum" = some none)
    (b_abs : PySem.W.nsIn K mainGlobals "abs" = some none)
    (b_enumerate : PySem.W.nsIn K mainGlobals "enumerate" = some none) : Nonempty (Txt K mg) :=
  ⟨⟨⟨t_DONE, PySem.W.mg_of X G a_DONE⟩,
    ⟨t_REFUSED, PySem.W.mg_of X G a_REFUSED⟩,
    ⟨t_TOO_MANY_CARDS, PySem.W.mg_of X G a_TOO_MANY_CARDS⟩,
    ⟨t_NO_GAME, PySem.W.mg_of X G a_NO_GAME⟩,
    ⟨t_VALUE_AWAITED, PySem.W.mg_of X G a_VALUE_AWAITED⟩,
    ⟨t_REPLY_AWAITED, PySem.W.mg_of X G a_REPLY_AWAITED⟩,
    ⟨t_LAST_WORD_AWAITED, PySem.W.mg_of X G a_LAST_WORD_AWAITED⟩,
    ⟨t_TAKING_AWAITED, PySem.W.mg_of X G a_TAKING_AWAITED⟩,
    ⟨t_LAYING_AWAITED, PySem.W.mg_of X G a_LAYING_AWAITED⟩,
    ⟨t_DECLARATION_AWAITED, PySem.W.mg_of X G a_DECLARATION_AWAITED⟩,
    ⟨t_PLAYING, PySem.W.mg_of X G a_PLAYING⟩,
    ⟨t_OVER, PySem.W.mg_of X G a_OVER⟩,
    ⟨t_PLAYERS, PySem.W.mg_of X G a_PLAYERS⟩,
    ⟨t_NOBODY, PySem.W.mg_of X G a_NOBODY⟩,
    ⟨t_AWAY, PySem.W.mg_of X G a_AWAY⟩,
    ⟨t_GRAND, PySem.W.mg_of X G a_GRAND⟩,
    ⟨t_NULL, PySem.W.mg_of X G a_NULL⟩,
    ⟨t_SAID_SCHNEIDER, PySem.W.mg_of X G a_SAID_SCHNEIDER⟩,
    ⟨t_SAID_SCHWARZ, PySem.W.mg_of X G a_SAID_SCHWARZ⟩,
    ⟨t_SAID_OPEN, PySem.W.mg_of X G a_SAID_OPEN⟩,
    ⟨t_PASS, PySem.W.mg_of X G a_PASS⟩,
    ⟨t_HOLD, PySem.W.mg_of X G a_HOLD⟩,
    ⟨t_LAST_WORD, PySem.W.mg_of X G a_LAST_WORD⟩,
    ⟨t_SECOND_BIDDER, PySem.W.mg_of X G a_SECOND_BIDDER⟩,
    ⟨t_ALL_CARDS, PySem.W.mg_of X G a_ALL_CARDS⟩,
    ⟨t_RANKS_OF_A_SUIT, PySem.W.mg_of X G a_RANKS_OF_A_SUIT⟩,
    ⟨t_ALL_POINTS, PySem.W.mg_of X G a_ALL_POINTS⟩,
    ⟨t_MOST_CARDS, PySem.W.mg_of X G a_MOST_CARDS⟩,
    ⟨t_ALL_TRICKS, PySem.W.mg_of X G a_ALL_TRICKS⟩,
    ⟨t_BEGIN, PySem.W.mg_of X G a_BEGIN⟩,
    ⟨t_DEAL, PySem.W.mg_of X G a_DEAL⟩,
    ⟨t_SPEAK, PySem.W.mg_of X G a_SPEAK⟩,
    ⟨t_TAKE, PySem.W.mg_of X G a_TAKE⟩,
    ⟨t_LAY, PySem.W.mg_of X G a_LAY⟩,
    ⟨t_DECLARE, PySem.W.mg_of X G a_DECLARE⟩,
    ⟨t_PLAY, PySem.W.mg_of X G a_PLAY⟩,
    ⟨t_LEGAL, PySem.W.mg_of X G a_LEGAL⟩,
    ⟨t_HAND, PySem.W.mg_of X G a_HAND⟩,
    ⟨t_STATE, PySem.W.mg_of X G a_STATE⟩,
    ⟨t_RESULT, PySem.W.mg_of X G a_RESULT⟩,
    ⟨r_GAMES, PySem.W.mg_of X G a_GAMES, fun _ => .inr ⟨_, its_GAMES, m_GAMES, l_GAMES, rfl, rfl, intsOf_size v_GAMES (by decide), intsOf_vals v_GAMES⟩⟩,
    ⟨r_VALUES, PySem.W.mg_of X G a_VALUES, fun _ => .inr ⟨_, its_VALUES, m_VALUES, l_VALUES, rfl, rfl, intsOf_size v_VALUES (by decide), intsOf_vals v_VALUES⟩⟩,
    ⟨r_POINTS, PySem.W.mg_of X G a_POINTS, fun _ => .inr ⟨_, its_POINTS, m_POINTS, l_POINTS, rfl, rfl, intsOf_size v_POINTS (by decide), intsOf_vals v_POINTS⟩⟩,
    ⟨r_SAID_IN_NULL, PySem.W.mg_of X G a_SAID_IN_NULL, fun _ => .inr ⟨_, its_SAID_IN_NULL, m_SAID_IN_NULL, l_SAID_IN_NULL, rfl, rfl, intsOf_size v_SAID_IN_NULL (by decide), intsOf_vals v_SAID_IN_NULL⟩⟩,
    ⟨r_SAID_FROM_HAND, PySem.W.mg_of X G a_SAID_FROM_HAND, fun _ => .inr ⟨_, its_SAID_FROM_HAND, m_SAID_FROM_HAND, l_SAID_FROM_HAND, rfl, rfl, intsOf_size v_SAID_FROM_HAND (by decide), intsOf_vals v_SAID_FROM_HAND⟩⟩,
    ⟨r_SAID_WITH_CARDS_TAKEN, PySem.W.mg_of X G a_SAID_WITH_CARDS_TAKEN, fun _ => .inr ⟨_, its_SAID_WITH_CARDS_TAKEN, m_SAID_WITH_CARDS_TAKEN, l_SAID_WITH_CARDS_TAKEN, rfl, rfl, intsOf_size v_SAID_WITH_CARDS_TAKEN (by decide), intsOf_vals v_SAID_WITH_CARDS_TAKEN⟩⟩,
    ⟨r_JACKS, PySem.W.mg_of X G a_JACKS, fun _ => .inr ⟨_, its_JACKS, m_JACKS, l_JACKS, rfl, rfl, intsOf_size v_JACKS (by decide), intsOf_vals v_JACKS⟩⟩,
    ⟨r_RANKS, PySem.W.mg_of X G a_RANKS, fun _ => .inr ⟨_, its_RANKS, m_RANKS, l_RANKS, rfl, rfl, intsOf_size v_RANKS (by decide), intsOf_vals v_RANKS⟩⟩,
    ⟨r_RANKS_IN_NULL, PySem.W.mg_of X G a_RANKS_IN_NULL, fun _ => .inr ⟨_, its_RANKS_IN_NULL, m_RANKS_IN_NULL, l_RANKS_IN_NULL, rfl, rfl, intsOf_size v_RANKS_IN_NULL (by decide), intsOf_vals v_RANKS_IN_NULL⟩⟩,
    ⟨r_BASES, PySem.W.mg_of X G a_BASES, fun _ => .inr ⟨_, its_BASES, m_BASES, l_BASES, rfl, rfl, intsOf_size v_BASES (by decide), intsOf_vals v_BASES⟩⟩,
    ⟨r_NUMBERS_TOLD, PySem.W.mg_of X G a_NUMBERS_TOLD, fun _ => .inr ⟨_, its_NUMBERS_TOLD, m_NUMBERS_TOLD, l_NUMBERS_TOLD, rfl, rfl, intsOf_size v_NUMBERS_TOLD (by decide), intsOf_vals v_NUMBERS_TOLD⟩⟩,
    ⟨f_speak, _, fun_mk (st := s_speak) l_speak c_speak k_speak, PySem.W.mg_of X G a_speak, fun us hl => match us, hl with | [_, _], _ => rfl⟩,
    ⟨f_say_value, _, fun_mk (st := s_say_value) l_say_value c_say_value k_say_value, PySem.W.mg_of X G a_say_value, fun us hl => match us, hl with | [_, _], _ => rfl⟩,
    ⟨f_reply, _, fun_mk (st := s_reply) l_reply c_reply k_reply, PySem.W.mg_of X G a_reply, fun us hl => match us, hl with | [_, _], _ => rfl⟩,
    ⟨f_say_last_word, _, fun_mk (st := s_say_last_word) l_say_last_word c_say_last_word k_say_last_word, PySem.W.mg_of X G a_say_last_word, fun us hl => match us, hl with | [_, _], _ => rfl⟩,
    ⟨f_go_on_with, _, fun_mk (st := s_go_on_with) l_go_on_with c_go_on_with k_go_on_with, PySem.W.mg_of X G a_go_on_with, fun us hl => match us, hl with | [_, _], _ => rfl⟩,
    ⟨f_play_alone, _, fun_mk (st := s_play_alone) l_play_alone c_play_alone k_play_alone, PySem.W.mg_of X G a_play_alone, fun us hl => match us, hl with | [_, _], _ => rfl⟩,
    ⟨f_set_of, _, fun_mk (st := s_set_of) l_set_of c_set_of k_set_of, PySem.W.mg_of X G a_set_of, fun us hl => match us, hl with | [_], _ => rfl⟩,
    ⟨f_holds, _, fun_mk (st := s_holds) l_holds c_holds k_holds, PySem.W.mg_of X G a_holds, fun us hl => match us, hl with | [_, _], _ => rfl⟩,
    ⟨f_cards_in, _, fun_mk (st := s_cards_in) l_cards_in c_cards_in k_cards_in, PySem.W.mg_of X G a_cards_in, fun us hl => match us, hl with | [_], _ => rfl⟩,
    ⟨f_counted, _, fun_mk (st := s_counted) l_counted c_counted k_counted, PySem.W.mg_of X G a_counted, fun us hl => match us, hl with | [_], _ => rfl⟩,
    ⟨f_points_of, _, fun_mk (st := s_points_of) l_points_of c_points_of k_points_of, PySem.W.mg_of X G a_points_of, fun us hl => match us, hl with | [_], _ => rfl⟩,
    ⟨f_is_whole_deck, _, fun_mk (st := s_is_whole_deck) l_is_whole_deck c_is_whole_deck k_is_whole_deck, PySem.W.mg_of X G a_is_whole_deck, fun us hl => match us, hl with | [_], _ => rfl⟩,
    ⟨f_take, _, fun_mk (st := s_take) l_take c_take k_take, PySem.W.mg_of X G a_take, fun us hl => match us, hl with | [_, _], _ => rfl⟩,
    ⟨f_lay, _, fun_mk (st := s_lay) l_lay c_lay k_lay, PySem.W.mg_of X G a_lay, fun us hl => match us, hl with | [_, _, _], _ => rfl⟩,
    ⟨f_declare, _, fun_mk (st := s_declare) l_declare c_declare k_declare, PySem.W.mg_of X G a_declare, fun us hl => match us, hl with | [_, _, _], _ => rfl⟩,
    ⟨f_sayable, _, fun_mk (st := s_sayable) l_sayable c_sayable k_sayable, PySem.W.mg_of X G a_sayable, fun us hl => match us, hl with | [_, _], _ => rfl⟩,
    ⟨f_trumps, _, fun_mk (st := s_trumps) l_trumps c_trumps k_trumps, PySem.W.mg_of X G a_trumps, fun us hl => match us, hl with | [_], _ => rfl⟩,
    ⟨f_cards_of_suit, _, fun_mk (st := s_cards_of_suit) l_cards_of_suit c_cards_of_suit k_cards_of_suit, PySem.W.mg_of X G a_cards_of_suit, fun us hl => match us, hl with | [_, _], _ => rfl⟩,
    ⟨f_followers, _, fun_mk (st := s_followers) l_followers c_followers k_followers, PySem.W.mg_of X G a_followers, fun us hl => match us, hl with | [_, _], _ => rfl⟩,
    ⟨f_playable, _, fun_mk (st := s_playable) l_playable c_playable k_playable, PySem.W.mg_of X G a_playable, fun us hl => match us, hl with | [_, _], _ => rfl⟩,
    ⟨f_playable_in_trick, _, fun_mk (st := s_playable_in_trick) l_playable_in_trick c_playable_in_trick k_playable_in_trick, PySem.W.mg_of X G a_playable_in_trick, fun us hl => match us, hl with | [_, _, _], _ => rfl⟩,
    ⟨f_strengths, _, fun_mk (st := s_strengths) l_strengths c_strengths k_strengths, PySem.W.mg_of X G a_strengths, fun us hl => match us, hl with | [_, _], _ => rfl⟩,
    ⟨f_place_that_takes, _, fun_mk (st := s_place_that_takes) l_place_that_takes c_place_that_takes k_place_that_takes, PySem.W.mg_of X G a_place_that_takes, fun us hl => match us, hl with | [_, _], _ => rfl⟩,
    ⟨f_whose_turn, _, fun_mk (st := s_whose_turn) l_whose_turn c_whose_turn k_whose_turn, PySem.W.mg_of X G a_whose_turn, fun us hl => match us, hl with | [_], _ => rfl⟩,
    ⟨f_playable_now, _, fun_mk (st := s_playable_now) l_playable_now c_playable_now k_playable_now, PySem.W.mg_of X G a_playable_now, fun us hl => match us, hl with | [_], _ => rfl⟩,
    ⟨f_legal, _, fun_mk (st := s_legal) l_legal c_legal k_legal, PySem.W.mg_of X G a_legal, fun us hl => match us, hl with | [_], _ => rfl⟩,
    ⟨f_play, _, fun_mk (st := s_play) l_play c_play k_play, PySem.W.mg_of X G a_play, fun us hl => match us, hl with | [_, _], _ => rfl⟩,
    ⟨f_end_trick, _, fun_mk (st := s_end_trick) l_end_trick c_end_trick k_end_trick, PySem.W.mg_of X G a_end_trick, fun us hl => match us, hl with | [_], _ => rfl⟩,
    ⟨f_is_played_out, _, fun_mk (st := s_is_played_out) l_is_played_out c_is_played_out k_is_played_out, PySem.W.mg_of X G a_is_played_out, fun us hl => match us, hl with | [_], _ => rfl⟩,
    ⟨f_points_so_far, _, fun_mk (st := s_points_so_far) l_points_so_far c_points_so_far k_points_so_far, PySem.W.mg_of X G a_points_so_far, fun us hl => match us, hl with | [_], _ => rfl⟩,
    ⟨f_sure, _, fun_mk (st := s_sure) l_sure c_sure k_sure, PySem.W.mg_of X G a_sure, fun us hl => match us, hl with | [_], _ => rfl⟩,
    ⟨f_best_in_trick, _, fun_mk (st := s_best_in_trick) l_best_in_trick c_best_in_trick k_best_in_trick, PySem.W.mg_of X G a_best_in_trick, fun us hl => match us, hl with | [_, _, _, _, _, _], _ => rfl⟩,
    ⟨f_playable_here, _, fun_mk (st := s_playable_here) l_playable_here c_playable_here k_playable_here, PySem.W.mg_of X G a_playable_here, fun us hl => match us, hl with | [_, _, _, _], _ => rfl⟩,
    ⟨f_after_trick, _, fun_mk (st := s_after_trick) l_after_trick c_after_trick k_after_trick, PySem.W.mg_of X G a_after_trick, fun us hl => match us, hl with | [_, _, _, _, _, _], _ => rfl⟩,
    ⟨f_best_from, _, fun_mk (st := s_best_from) l_best_from c_best_from k_best_from, PySem.W.mg_of X G a_best_from, fun us hl => match us, hl with | [_, _, _, _, _], _ => rfl⟩,
    ⟨f_result, _, fun_mk (st := s_result) l_result c_result k_result, PySem.W.mg_of X G a_result, fun us hl => match us, hl with | [_], _ => rfl⟩,
    ⟨f_reckoned, _, fun_mk (st := s_reckoned) l_reckoned c_reckoned k_reckoned, PySem.W.mg_of X G a_reckoned, fun us hl => match us, hl with | [_], _ => rfl⟩,
    ⟨f_least_multiple, _, fun_mk (st := s_least_multiple) l_least_multiple c_least_multiple k_least_multiple, PySem.W.mg_of X G a_least_multiple, fun us hl => match us, hl with | [_, _], _ => rfl⟩,
    ⟨f_worth_of, _, fun_mk (st := s_worth_of) l_worth_of c_worth_of k_worth_of, PySem.W.mg_of X G a_worth_of, fun us hl => match us, hl with | [_], _ => rfl⟩,
    ⟨f_worth_of_null, _, fun_mk (st := s_worth_of_null) l_worth_of_null c_worth_of_null k_worth_of_null, PySem.W.mg_of X G a_worth_of_null, fun us hl => match us, hl with | [_], _ => rfl⟩,
    ⟨f_times, _, fun_mk (st := s_times) l_times c_times k_times, PySem.W.mg_of X G a_times, fun us hl => match us, hl with | [_], _ => rfl⟩,
    ⟨f_tops, _, fun_mk (st := s_tops) l_tops c_tops k_tops, PySem.W.mg_of X G a_tops, fun us hl => match us, hl with | [_], _ => rfl⟩,
    ⟨f_is_won, _, fun_mk (st := s_is_won) l_is_won c_is_won k_is_won, PySem.W.mg_of X G a_is_won, fun us hl => match us, hl with | [_], _ => rfl⟩,
    ⟨f_has_said, _, fun_mk (st := s_has_said) l_has_said c_has_said k_has_said, PySem.W.mg_of X G a_has_said, fun us hl => match us, hl with | [_, _], _ => rfl⟩,
    ⟨f_hand, _, fun_mk (st := s_hand) l_hand c_hand k_hand, PySem.W.mg_of X G a_hand, fun us hl => match us, hl with | [_, _], _ => rfl⟩,
    ⟨f_state, _, fun_mk (st := s_state) l_state c_state k_state, PySem.W.mg_of X G a_state, fun us hl => match us, hl with | [_], _ => rfl⟩,
    ⟨f_who_acts, _, fun_mk (st := s_who_acts) l_who_acts c_who_acts k_who_acts, PySem.W.mg_of X G a_who_acts, fun us hl => match us, hl with | [_], _ => rfl⟩,
    ⟨f_answers, _, fun_mk (st := s_answers) l_answers c_answers k_answers, PySem.W.mg_of X G a_answers, fun us hl => match us, hl with | [_], _ => rfl⟩,
    ⟨f_end_of_call, _, fun_mk (st := s_end_of_call) l_end_of_call c_end_of_call k_end_of_call, PySem.W.mg_of X G a_end_of_call, fun us hl => match us, hl with | [_, _], _ => rfl⟩,
    ⟨f_answer_call, _, fun_mk (st := s_answer_call) l_answer_call c_answer_call k_answer_call, PySem.W.mg_of X G a_answer_call, fun us hl => match us, hl with | [_, _], _ => rfl⟩,
    ⟨f_deal, _, fun_mk (st := s_deal) l_deal c_deal k_deal, PySem.W.mg_of X G a_deal, fun us hl => match us, hl with | [_, _], _ => rfl⟩,
    ⟨f_move, _, fun_mk (st := s_move) l_move c_move k_move, PySem.W.mg_of X G a_move, fun us hl => match us, hl with | [_, _], _ => rfl⟩,
    ⟨f_tell, _, fun_mk (st := s_tell) l_tell c_tell k_tell, PySem.W.mg_of X G a_tell, fun us hl => match us, hl with | [_, _], _ => rfl⟩,
    ⟨C_Ending, f_Ending, _, ⟨pg_Ending, hd_Ending, po_Ending, sa_Ending⟩, ⟨mk_Ending, i_Ending, n_Ending, kc_Ending⟩, fun_mk (st := s_Ending_init) l_Ending c_Ending k_Ending, PySem.W.mg_of X G a_Ending, (fun_mk (st := s_Ending_init) l_Ending c_Ending k_Ending).binds (ps := ["self", "game"]) fun _ _ _ _ _ _ us hl => match us, hl with | [_, _], _ => rfl, by
      intro i f h
      match i, h with
      | 0, h => cases (Option.some.inj h); exact no_Ending_0
      | 1, h => cases (Option.some.inj h); exact no_Ending_1
      | 2, h => cases (Option.some.inj h); exact no_Ending_2
      | 3, h => cases (Option.some.inj h); exact no_Ending_3
      | 4, h => cases (Option.some.inj h); exact no_Ending_4
      | 5, h => cases (Option.some.inj h); exact no_Ending_5
      | 6, h => cases (Option.some.inj h); exact no_Ending_6
      | i + 7, h => simp [ks_Ending] at h⟩,
    ⟨C_Game, f_Game, _, ⟨pg_Game, hd_Game, po_Game, sa_Game⟩, ⟨mk_Game, i_Game, n_Game, kc_Game⟩, fun_mk (st := s_Game_init) l_Game c_Game k_Game, PySem.W.mg_of X G a_Game, (fun_mk (st := s_Game_init) l_Game c_Game k_Game).binds (ps := ["self", "cards"]) fun _ _ _ _ _ _ us hl => match us, hl with | [_, _], _ => rfl, by
      intro i f h
      match i, h with
      | 0, h => cases (Option.some.inj h); exact no_Game_0
      | 1, h => cases (Option.some.inj h); exact no_Game_1
      | 2, h => cases (Option.some.inj h); exact no_Game_2
      | 3, h => cases (Option.some.inj h); exact no_Game_3
      | 4, h => cases (Option.some.inj h); exact no_Game_4
      | 5, h => cases (Option.some.inj h); exact no_Game_5
      | 6, h => cases (Option.some.inj h); exact no_Game_6
      | 7, h => cases (Option.some.inj h); exact no_Game_7
      | 8, h => cases (Option.some.inj h); exact no_Game_8
      | 9, h => cases (Option.some.inj h); exact no_Game_9
      | 10, h => cases (Option.some.inj h); exact no_Game_10
      | 11, h => cases (Option.some.inj h); exact no_Game_11
      | 12, h => cases (Option.some.inj h); exact no_Game_12
      | 13, h => cases (Option.some.inj h); exact no_Game_13
      | 14, h => cases (Option.some.inj h); exact no_Game_14
      | 15, h => cases (Option.some.inj h); exact no_Game_15
      | i + 16, h => simp [ks_Game] at h⟩,
    ⟨C_Desk, f_Desk, _, ⟨pg_Desk, hd_Desk, po_Desk, sa_Desk⟩, ⟨mk_Desk, i_Desk, n_Desk, kc_Desk⟩, fun_mk (st := s_Desk_init) l_Desk c_Desk k_Desk, PySem.W.mg_of X G a_Desk, (fun_mk (st := s_Desk_init) l_Desk c_Desk k_Desk).binds (ps := ["self"]) fun _ _ _ _ _ _ us hl => match us, hl with | [_], _ => rfl, by
      intro i f h
      match i, h with
      | 0, h => cases (Option.some.inj h); exact no_Desk_0
      | i + 1, h => simp [ks_Desk] at h⟩,
    PySem.W.mg_none_of X G b_len,
    PySem.W.mg_none_of X G b_max,
    PySem.W.mg_none_of X G b_min,
    PySem.W.mg_none_of X G b_sorted,
    PySem.W.mg_none_of X G b_list,
    PySem.W.mg_none_of X G b_range,
    PySem.W.mg_none_of X G b_sum,
    PySem.W.mg_none_of X G b_abs,
    PySem.W.mg_none_of X G b_enumerate⟩⟩

/-! ### the game as it lies in the heap -/
def optV : Option Int → V
  | none => .non
  | some i => .int i
def gv (l t : Addr) (en : V) (p : Tc.PG) : List V := [.ref l, .int (p.away : Nat), .int p.phase, .int p.bidder, .int p.hearer, .int p.bid, .int p.alone, .int (p.had : Nat), .bl p.fromHand, optV p.declared, .int p.said, .int p.leader, .ref t, .int (p.taken : Nat), .int p.tricks, en]
def hv (p : Tc.PG) : List V := p.hands.map fun (n : Nat) => V.int (n : Int)
structure GameAt (C : Addr) (H : Hp) (a l t : Addr) (en : V) (p : Tc.PG) : Prop where
  obj : ∃ dx, H a = some (.ins C dx (ks_Game.zip (gv l t en p)))
  lst : H l = some (.lst (hv p))
theorem GameAt.ne {C : Addr} {H : Hp} {a l t : Addr} {en : V} {p : Tc.PG} (G : GameAt C H a l t en p) : l ≠ a := by
  obtain ⟨⟨dx, h1⟩, h2⟩ := G
  exact ne_of h2 h1 (by intro z; cases z)
/-- what is asked of a game ahead of a call -/
structure POk (p : Tc.PG) : Prop where
  three : p.hands.length = 3
  small : ∀ m, m ∈ p.hands → m < 2 ^ 32
  alone : (p.phase = 3 ∨ p.phase = 4) → 0 ≤ p.alone ∧ p.alone < 3
  seats : (p.phase = 0 ∨ p.phase = 1) → (0 ≤ p.bidder ∧ p.bidder < 3) ∧ (0 ≤ p.hearer ∧ p.hearer < 3)
/-- a call on a game with one number, where pre holds -/
def spG (C : Addr) (pre : Tc.PG → Int → Prop) (m : Tc.PG → Int → Tc.PG × Int) : Sp := fun vs H Q _ => ∃ (a l t : Addr) (en : V) (p : Tc.PG) (x : Int), vs = [.ref a, .int x] ∧ GameAt C H a l t en p ∧ POk p ∧ pre p x ∧
  ∀ H' : Hp, GameAt C H' a l t en (m p x).1 → But2 a l H H' → Q (.int (m p x).2) H'
/-- a call on a game with two numbers -/
def spG2 (C : Addr) (m : Tc.PG → Int → Int → Tc.PG × Int) : Sp := fun vs H Q _ => ∃ (a l t : Addr) (en : V) (p : Tc.PG) (x y : Int), vs = [.ref a, .int x, .int y] ∧ GameAt C H a l t en p ∧ POk p ∧
  ∀ H' : Hp, GameAt C H' a l t en (m p x y).1 → But2 a l H H' → Q (.int (m p x y).2) H'
def anyway : Tc.PG → Int → Prop := fun _ _ => True
def seat : Tc.PG → Int → Prop := fun _ x => 0 ≤ x ∧ x < 3
theorem hand_seat {p : Tc.PG} (po : POk p) {x : Int} (h : 0 ≤ x ∧ x < 3) : ∃ j : Nat, x = (j : Int) ∧ j = x.toNat ∧ j < 3 ∧ p.hands[j]? = some (p.hands.getD j 0) ∧ (hv p)[j]? = some (V.int ((p.hands.getD j 0 : Nat) : Int)) := by
  obtain ⟨h0, h3⟩ := h
  have hj : x.toNat < p.hands.length := by rw [po.three]; omega
  have e : p.hands[x.toNat]? = some (p.hands.getD x.toNat 0) := by rw [List.getD_eq_getElem?_getD, List.getElem?_eq_getElem hj]; rfl
  refine ⟨x.toNat, by omega, rfl, by omega, e, ?_⟩
  unfold hv
  rw [List.getElem?_map, e]
  rfl
section
variable {P : Program} {w : World} {K : PySem.W.Frag} {mg : Str → Option Value} {base : Heap}
theorem ok_play_alone (T : Txt K mg) : FnOk P w K mg base CX0 1 T.d_play_alone.f T.d_play_alone.fd ["game", "who"] (spG T.k_Game.C seat Tc.mPlayAlone) := by
  have nd := sc_play_alone.nd
  refine T.d_play_alone.fn.ok sc_play_alone (fun vs H Q E h => ?_) (fun cdv A outer s H vs Q E hr h => ?_)
  · obtain ⟨a, l, t, en, p, x, rfl, _⟩ := h
    rfl
  · obtain ⟨a, l, t, en, p, x, rfl, G, po, pr, k⟩ := h
    have ne := G.ne
    obtain ⟨⟨dx, h1⟩, hl⟩ := G
    refine ⟨_, (pss_cons (ps_fld (pv 0) (pv 1) rfl)
      (pss_cons (ps_fld (pv 0) (pe_op op_or (pe_ix ix_list (pe_fld (pv 0) rfl) (pv 1) (fun _ _ => rfl)) (pe_fld (pv 0) rfl)) rfl)
      (pss_cons (ps_fld (pv 0) (pe_gint rfl T.c_TAKING_AWAITED) rfl)
      (pss_one (ps_ret (pe_fld (pv 0) rfl)))))), ?_⟩
    obtain ⟨j, ej, ej2, j3, hj, hjv⟩ := hand_seat po pr
    refine ⟨_, rfl, _, rfl, st_fld (i := 6) h1 T.k_Game.cl (T.k_Game.no 6 _ rfl) nd_Game rfl rfl (by decide) ?_⟩
    refine ⟨_, rfl, rd_fldU (i := 0) T.k_Game.cl (T.k_Game.no 0 _ rfl) nd_Game rfl rfl ⟨_, rfl, l, _, _, _, rfl, rfl, SqL.of (by rw [upd_ne ne]; exact hl), atI_in ej hjv, _, rfl, rd_fldU (i := 1) T.k_Game.cl (T.k_Game.no 1 _ rfl) nd_Game rfl rfl ⟨_, _, rfl, rfl, ?_⟩⟩⟩
    refine ⟨_, rfl, st_fldU (i := 7) T.k_Game.cl (T.k_Game.no 7 _ rfl) nd_Game rfl rfl (by decide) ?_⟩
    refine ⟨_, rfl, st_fldU (i := 2) T.k_Game.cl (T.k_Game.no 2 _ rfl) nd_Game rfl rfl (by decide) ?_⟩
    refine ⟨_, rfl, rd_fldU (i := 2) T.k_Game.cl (T.k_Game.no 2 _ rfl) nd_Game rfl rfl ?_⟩
    refine k _ ⟨⟨dx, ?_⟩, by rw [upd_ne ne]; exact hl⟩ But2.upd
    rw [upd_same]
    dsimp only
    rw [bor, ej2]
    rfl
theorem ok_go_on_with (T : Txt K mg) : FnOk P w K mg base CX0 2 T.d_go_on_with.f T.d_go_on_with.fd ["game", "left"] (spG T.k_Game.C seat Tc.mGoOn) := by
  have nd := sc_go_on_with.nd
  have G_play_alone : FnOk P w K mg base CX0 1 _ _ _ _ := ok_play_alone T
  refine T.d_go_on_with.fn.ok sc_go_on_with (fun vs H Q E h => ?_) (fun cdv A outer s H vs Q E hr h => ?_)
  · obtain ⟨a, l, t, en, p, x, rfl, _⟩ := h
    rfl
  · obtain ⟨a, l, t, en, p, x, rfl, G, po, pr, k⟩ := h
    have ne := G.ne
    have G0 := G
    obtain ⟨⟨dx, h1⟩, hl⟩ := G
    have hr_play_alone := hr
    refine ⟨_, (pss_cons (ps_if (pt_cmp (pc_neI (pe_fld (pv 0) rfl) (pe_gint rfl T.c_SECOND_BIDDER))) (pss_cons (ps_fld (pv 0) (pe_gint rfl T.c_SECOND_BIDDER) rfl)
      (pss_cons (ps_fld (pv 0) (pv 1) rfl)
      (pss_cons (ps_fld (pv 0) (pe_gint rfl T.c_VALUE_AWAITED) rfl)
      (pss_one (ps_ret (pe_fld (pv 0) rfl)))))) pss_nil)
      (pss_cons (ps_if (pt_cmp (pc_eqI (pe_fld (pv 0) rfl) pe_int)) (pss_cons (ps_fld (pv 0) (pe_gint rfl T.c_LAST_WORD_AWAITED) rfl)
      (pss_one (ps_ret (pe_fld (pv 0) rfl)))) pss_nil)
      (pss_one (ps_ret (pe_def T.d_play_alone G_play_alone hr_play_alone rfl (pa_cons (pv 0) (pa_cons (pv 1) pa_nil))))))), ?_⟩
    refine ⟨_, rfl, rd_fld (i := 3) h1 T.k_Game.cl (T.k_Game.no 3 _ rfl) nd_Game rfl rfl ⟨_, _, rfl, rfl, _, rfl, itN (fun hc => ?_) (fun hc => ?_)⟩⟩
    · refine ⟨_, rfl, st_fld (i := 3) h1 T.k_Game.cl (T.k_Game.no 3 _ rfl) nd_Game rfl rfl (by decide) ?_⟩
      refine ⟨_, rfl, _, rfl, st_fldU (i := 4) T.k_Game.cl (T.k_Game.no 4 _ rfl) nd_Game rfl rfl (by decide) ?_⟩
      refine ⟨_, rfl, st_fldU (i := 2) T.k_Game.cl (T.k_Game.no 2 _ rfl) nd_Game rfl rfl (by decide) ?_⟩
      refine ⟨_, rfl, rd_fldU (i := 2) T.k_Game.cl (T.k_Game.no 2 _ rfl) nd_Game rfl rfl ?_⟩
      have e : Tc.mGoOn p x = ({ p with bidder := 2, hearer := x, phase := 0 }, 0) := if_pos hc
      rw [e] at k
      exact k _ ⟨⟨dx, upd_same⟩, by rw [upd_ne ne]; exact hl⟩ But2.upd
    · have e1 : Tc.mGoOn p x = _ := if_neg (fun z => z hc)
      refine ⟨_, rfl, rd_fld (i := 5) h1 T.k_Game.cl (T.k_Game.no 5 _ rfl) nd_Game rfl rfl ⟨_, _, rfl, rfl, _, rfl, itD (fun h0 => ?_) (fun h0 => ?_)⟩⟩
      · rw [if_pos h0] at e1
        rw [e1] at k
        refine ⟨_, rfl, st_fld (i := 2) h1 T.k_Game.cl (T.k_Game.no 2 _ rfl) nd_Game rfl rfl (by decide) ?_⟩
        refine ⟨_, rfl, rd_fldU (i := 2) T.k_Game.cl (T.k_Game.no 2 _ rfl) nd_Game rfl rfl ?_⟩
        exact k _ ⟨⟨dx, upd_same⟩, by rw [upd_ne ne]; exact hl⟩ But2.upd
      · rw [if_neg h0] at e1
        rw [e1] at k
        exact ⟨_, rfl, _, rfl, a, l, t, en, p, x, rfl, G0, po, pr, k⟩
theorem ok_say_value (T : Txt K mg) : FnOk P w K mg base CX0 3 T.d_say_value.f T.d_say_value.fd ["game", "x"] (spG T.k_Game.C (fun p _ => p.phase = 0) Tc.mSayValue) := by
  have nd := sc_say_value.nd
  have G_go_on_with : FnOk P w K mg base CX0 2 _ _ _ _ := ok_go_on_with T
  refine T.d_say_value.fn.ok sc_say_value (fun vs H Q E h => ?_) (fun cdv A outer s H vs Q E hr h => ?_)
  · obtain ⟨a, l, t, en, p, x, rfl, _⟩ := h
    rfl
  · obtain ⟨a, l, t, en, p, x, rfl, G, po, pr, k⟩ := h
    have ne := G.ne
    have G0 := G
    obtain ⟨⟨dx, h1⟩, hl⟩ := G
    have hr_go_on_with := hr
    refine ⟨_, (pss_cons (ps_if (pt_cmp (pc_eqI (pv 1) (pe_gint rfl T.c_PASS))) (pss_one (ps_ret (pe_def T.d_go_on_with G_go_on_with hr_go_on_with rfl (pa_cons (pv 0) (pa_cons (pe_fld (pv 0) rfl) pa_nil))))) pss_nil)
      (pss_cons (ps_if (PW.pt (pw_or (pt_cmpR op_notIn_seq (pv 1) (pe_gseq rfl T.c_VALUES) rfl) (pw_or1 (pt_cmp (pc_le (pv 1) (pe_fld (pv 0) rfl)))))) (pss_one (ps_ret (pe_gint rfl T.c_REFUSED))) pss_nil)
      (pss_cons (ps_fld (pv 0) (pv 1) rfl)
      (pss_cons (ps_fld (pv 0) (pe_gint rfl T.c_REPLY_AWAITED) rfl)
      (pss_one (ps_ret (pe_fld (pv 0) rfl))))))), ?_⟩
    refine ⟨_, rfl, _, _, rfl, rfl, _, rfl, itD (fun h0 => ?_) (fun h0 => ?_)⟩
    · have e : Tc.mSayValue p x = Tc.mGoOn p p.hearer := if_pos h0
      rw [e] at k
      exact ⟨_, rfl, _, rfl, rd_fld (i := 4) h1 T.k_Game.cl (T.k_Game.no 4 _ rfl) nd_Game rfl rfl ⟨a, l, t, en, p, p.hearer, rfl, G0, po, (po.seats (.inl pr)).2, k⟩⟩
    · have e1 : Tc.mSayValue p x = _ := if_neg h0
      refine ⟨_, rfl, fun r hseq => ⟨r, _, rfl, .inr (hseq _), rfl, flat_ints _, _, rfl, ?_⟩⟩
      show if (!inV (V.int x) (Tc.pvalues.map V.int)) = true then _ else _
      rw [inV_ints]
      refine itN (fun hn => ?_) (fun hn => ?_)
      · refine iteT ?_
        rw [if_pos (.inl hn)] at e1
        rw [e1] at k
        exact k H G0 But2.refl
      · refine ⟨_, rfl, _, rfl, rd_fld (i := 5) h1 T.k_Game.cl (T.k_Game.no 5 _ rfl) nd_Game rfl rfl ⟨_, _, rfl, rfl, _, rfl, ?_⟩⟩
        refine itD (fun hb => ?_) (fun hb => ?_)
        · rw [if_pos (.inr hb)] at e1
          rw [e1] at k
          exact k H G0 But2.refl
        · rw [if_neg (fun z => z.elim (fun z => z hn) hb)] at e1
          rw [e1] at k
          refine ⟨_, rfl, _, rfl, st_fld (i := 5) h1 T.k_Game.cl (T.k_Game.no 5 _ rfl) nd_Game rfl rfl (by decide) ?_⟩
          refine ⟨_, rfl, st_fldU (i := 2) T.k_Game.cl (T.k_Game.no 2 _ rfl) nd_Game rfl rfl (by decide) ?_⟩
          refine ⟨_, rfl, rd_fldU (i := 2) T.k_Game.cl (T.k_Game.no 2 _ rfl) nd_Game rfl rfl ?_⟩
          exact k _ ⟨⟨dx, upd_same⟩, by rw [upd_ne ne]; exact hl⟩ But2.upd
theorem ok_reply (T : Txt K mg) : FnOk P w K mg base CX0 3 T.d_reply.f T.d_reply.fd ["game", "x"] (spG T.k_Game.C (fun p _ => p.phase = 1) Tc.mReply) := by
  have nd := sc_reply.nd
  have G_go_on_with : FnOk P w K mg base CX0 2 _ _ _ _ := ok_go_on_with T
  refine T.d_reply.fn.ok sc_reply (fun vs H Q E h => ?_) (fun cdv A outer s H vs Q E hr h => ?_)
  · obtain ⟨a, l, t, en, p, x, rfl, _⟩ := h
    rfl
  · obtain ⟨a, l, t, en, p, x, rfl, G, po, pr, k⟩ := h
    have ne := G.ne
    have G0 := G
    obtain ⟨⟨dx, h1⟩, hl⟩ := G
    have hr_go_on_with := hr
    refine ⟨_, (pss_cons (ps_if (pt_cmp (pc_eqI (pv 1) (pe_gint rfl T.c_PASS))) (pss_one (ps_ret (pe_def T.d_go_on_with G_go_on_with hr_go_on_with rfl (pa_cons (pv 0) (pa_cons (pe_fld (pv 0) rfl) pa_nil))))) pss_nil)
      (pss_cons (ps_if (pt_cmp (pc_neI (pv 1) (pe_gint rfl T.c_HOLD))) (pss_one (ps_ret (pe_gint rfl T.c_REFUSED))) pss_nil)
      (pss_cons (ps_fld (pv 0) (pe_gint rfl T.c_VALUE_AWAITED) rfl)
      (pss_one (ps_ret (pe_fld (pv 0) rfl)))))), ?_⟩
    refine ⟨_, rfl, _, _, rfl, rfl, _, rfl, itD (fun h0 => ?_) (fun h0 => ?_)⟩
    · have e : Tc.mReply p x = Tc.mGoOn p p.bidder := if_pos h0
      rw [e] at k
      exact ⟨_, rfl, _, rfl, rd_fld (i := 3) h1 T.k_Game.cl (T.k_Game.no 3 _ rfl) nd_Game rfl rfl ⟨a, l, t, en, p, p.bidder, rfl, G0, po, (po.seats (.inr pr)).1, k⟩⟩
    · have e1 : Tc.mReply p x = _ := if_neg h0
      refine ⟨_, rfl, _, _, rfl, rfl, _, rfl, itN (fun hc => ?_) (fun hc => ?_)⟩
      · rw [if_pos hc] at e1
        rw [e1] at k
        exact k H G0 But2.refl
      · rw [if_neg (fun z => z hc)] at e1
        rw [e1] at k
        refine ⟨_, rfl, st_fld (i := 2) h1 T.k_Game.cl (T.k_Game.no 2 _ rfl) nd_Game rfl rfl (by decide) ?_⟩
        refine ⟨_, rfl, rd_fldU (i := 2) T.k_Game.cl (T.k_Game.no 2 _ rfl) nd_Game rfl rfl ?_⟩
        exact k _ ⟨⟨dx, upd_same⟩, by rw [upd_ne ne]; exact hl⟩ But2.upd
theorem ok_say_last_word (T : Txt K mg) : FnOk P w K mg base CX0 3 T.d_say_last_word.f T.d_say_last_word.fd ["game", "x"] (spG T.k_Game.C anyway Tc.mLastWord) := by
  have nd := sc_say_last_word.nd
  have G_play_alone : FnOk P w K mg base CX0 1 _ _ _ _ := ok_play_alone T
  refine T.d_say_last_word.fn.ok sc_say_last_word (fun vs H Q E h => ?_) (fun cdv A outer s H vs Q E hr h => ?_)
  · obtain ⟨a, l, t, en, p, x, rfl, _⟩ := h
    rfl
  · obtain ⟨a, l, t, en, p, x, rfl, G, po, pr, k⟩ := h
    have ne := G.ne
    have G0 := G
    obtain ⟨⟨dx, h1⟩, hl⟩ := G
    have hr_play_alone := hr.mono (show 1 ≤ 2 by decide)
    refine ⟨_, (pss_cons (ps_if (pt_cmp (pc_eqI (pv 1) (pe_gint rfl T.c_PASS))) (pss_cons (ps_fld (pv 0) (pe_gint rfl T.c_OVER) rfl)
      (pss_one (ps_ret (pe_fld (pv 0) rfl)))) pss_nil)
      (pss_cons (ps_if (pt_cmp (pc_neI (pv 1) (pe_gint rfl T.c_LAST_WORD))) (pss_one (ps_ret (pe_gint rfl T.c_REFUSED))) pss_nil)
      (pss_cons (ps_fld (pv 0) (pe_gint rfl T.c_LAST_WORD) rfl)
      (pss_one (ps_ret (pe_def T.d_play_alone G_play_alone hr_play_alone rfl (pa_cons (pv 0) (pa_cons pe_int pa_nil)))))))), ?_⟩
    refine ⟨_, rfl, _, _, rfl, rfl, _, rfl, itD (fun h0 => ?_) (fun h0 => ?_)⟩
    · have e : Tc.mLastWord p x = ({ p with phase := 7 }, 7) := if_pos h0
      rw [e] at k
      refine ⟨_, rfl, st_fld (i := 2) h1 T.k_Game.cl (T.k_Game.no 2 _ rfl) nd_Game rfl rfl (by decide) ?_⟩
      refine ⟨_, rfl, rd_fldU (i := 2) T.k_Game.cl (T.k_Game.no 2 _ rfl) nd_Game rfl rfl ?_⟩
      exact k _ ⟨⟨dx, upd_same⟩, by rw [upd_ne ne]; exact hl⟩ But2.upd
    · have e1 : Tc.mLastWord p x = _ := if_neg h0
      refine ⟨_, rfl, _, _, rfl, rfl, _, rfl, itN (fun hc => ?_) (fun hc => ?_)⟩
      · rw [if_pos hc] at e1
        rw [e1] at k
        exact k H G0 But2.refl
      · rw [if_neg (fun z => z hc)] at e1
        rw [e1] at k
        refine ⟨_, rfl, st_fld (i := 5) h1 T.k_Game.cl (T.k_Game.no 5 _ rfl) nd_Game rfl rfl (by decide) ?_⟩
        refine ⟨_, rfl, a, l, t, en, { p with bid := 18 }, 0, rfl, ⟨⟨dx, upd_same⟩, by rw [upd_ne ne]; exact hl⟩, ⟨po.three, po.small, po.alone, po.seats⟩, ⟨by decide, by decide⟩, fun H' G' b' => k H' G' ?_⟩
        exact fun b o e h1 h2 => b' b o (But2.upd (l := l) b o e h1 h2) h1 h2
theorem ok_speak (T : Txt K mg) : FnOk P w K mg base CX0 4 T.d_speak.f T.d_speak.fd ["game", "x"] (spG T.k_Game.C anyway Tc.mSpeak) := by
  have nd := sc_speak.nd
  have G_say_value : FnOk P w K mg base CX0 3 _ _ _ _ := ok_say_value T
  have G_reply : FnOk P w K mg base CX0 3 _ _ _ _ := ok_reply T
  have G_say_last_word : FnOk P w K mg base CX0 3 _ _ _ _ := ok_say_last_word T
  refine T.d_speak.fn.ok sc_speak (fun vs H Q E h => ?_) (fun cdv A outer s H vs Q E hr h => ?_)
  · obtain ⟨a, l, t, en, p, x, rfl, _⟩ := h
    rfl
  · obtain ⟨a, l, t, en, p, x, rfl, G, po, pr, k⟩ := h
    have ne := G.ne
    have G0 := G
    obtain ⟨⟨dx, h1⟩, hl⟩ := G
    have hr_say_value := hr
    have hr_reply := hr
    have hr_say_last_word := hr
    refine ⟨_, (pss_cons (ps_if (pt_cmp (pc_eqI (pe_fld (pv 0) rfl) (pe_gint rfl T.c_VALUE_AWAITED))) (pss_one (ps_ret (pe_def T.d_say_value G_say_value hr_say_value rfl (pa_cons (pv 0) (pa_cons (pv 1) pa_nil))))) pss_nil)
      (pss_cons (ps_if (pt_cmp (pc_eqI (pe_fld (pv 0) rfl) (pe_gint rfl T.c_REPLY_AWAITED))) (pss_one (ps_ret (pe_def T.d_reply G_reply hr_reply rfl (pa_cons (pv 0) (pa_cons (pv 1) pa_nil))))) pss_nil)
      (pss_cons (ps_if (pt_cmp (pc_eqI (pe_fld (pv 0) rfl) (pe_gint rfl T.c_LAST_WORD_AWAITED))) (pss_one (ps_ret (pe_def T.d_say_last_word G_say_last_word hr_say_last_word rfl (pa_cons (pv 0) (pa_cons (pv 1) pa_nil))))) pss_nil)
      (pss_one (ps_ret (pe_gint rfl T.c_REFUSED)))))), ?_⟩
    refine ⟨_, rfl, rd_fld (i := 2) h1 T.k_Game.cl (T.k_Game.no 2 _ rfl) nd_Game rfl rfl ⟨_, _, rfl, rfl, _, rfl, itD (fun h0 => ?_) (fun h0 => ?_)⟩⟩
    · have e : Tc.mSpeak p x = Tc.mSayValue p x := if_pos h0
      rw [e] at k
      exact ⟨_, rfl, _, rfl, a, l, t, en, p, x, rfl, G0, po, h0, k⟩
    have e0 : Tc.mSpeak p x = _ := if_neg h0
    refine ⟨_, rfl, rd_fld (i := 2) h1 T.k_Game.cl (T.k_Game.no 2 _ rfl) nd_Game rfl rfl ⟨_, _, rfl, rfl, _, rfl, itD (fun h2 => ?_) (fun h2 => ?_)⟩⟩
    · rw [if_pos h2] at e0
      rw [e0] at k
      exact ⟨_, rfl, _, rfl, a, l, t, en, p, x, rfl, G0, po, h2, k⟩
    rw [if_neg h2] at e0
    refine ⟨_, rfl, rd_fld (i := 2) h1 T.k_Game.cl (T.k_Game.no 2 _ rfl) nd_Game rfl rfl ⟨_, _, rfl, rfl, _, rfl, itD (fun h3 => ?_) (fun h3 => ?_)⟩⟩
    · rw [if_pos h3] at e0
      rw [e0] at k
      exact ⟨_, rfl, _, rfl, a, l, t, en, p, x, rfl, G0, po, trivial, k⟩
    rw [if_neg h3] at e0
    rw [e0] at k
    exact k H G0 But2.refl
end
end Prog
namespace Prog
open PySem L2
/-! ### sets of cards -/
def spHolds : Sp := fun vs H Q _ => ∃ (bits : Nat) (card : Int), vs = [.int (bits : Int), .int card] ∧ Q (.bl (Tc.mHolds bits card)) H
def spSetOf (K : PySem.W.Frag) : Sp := fun vs H Q _ => ∃ (r : Addr) (ns : List Int), vs = [.ref r] ∧ SqL K H r (ns.map V.int) ∧ (∀ c, c ∈ ns → 0 ≤ c ∧ c ≤ 1000) ∧ Q (.int (Tc.mSetOf ns : Nat)) H
def spSayable (K : PySem.W.Frag) : Sp := fun vs H Q _ => ∃ (d : Int) (fh : Bool), vs = [.int d, .bl fh] ∧ ∀ r, (∀ H', SqT K H' r ((Tc.mSayable d fh).map V.int)) → Q (.ref r) H
section
variable {P : Program} {w : World} {K : PySem.W.Frag} {mg : Str → Option Value} {base : Heap}
theorem ok_holds (T : Txt K mg) : FnOk P w K mg base CX0 1 T.d_holds.f T.d_holds.fd ["bits", "card"] spHolds := by
  have nd := sc_holds.nd
  refine T.d_holds.fn.ok sc_holds (fun vs H Q E h => ?_) (fun cdv A outer s H vs Q E hr h => ?_)
  · obtain ⟨bits, card, rfl, _⟩ := h
    rfl
  · obtain ⟨bits, card, rfl, k⟩ := h
    refine ⟨_, (pss_one (ps_ret (pe_and (pe_cmp (pc_ge (pv 1) pe_int)) (pe_one (pe_cmp (pc_eqI (pe_op op_and (pe_op op_shr (pv 0) (pv 1)) pe_int) pe_int)))))), ?_⟩
    refine ⟨_, rfl, _, _, rfl, rfl, _, rfl, itD (fun h0 => ?_) (fun h0 => ?_)⟩
    · refine ⟨_, rfl, _, rfl, _, _, rfl, rfl, h0, _, _, rfl, rfl, _, _, rfl, rfl, ?_⟩
      have e : Tc.mHolds bits card = decide (Builtin.bitAnd ((bits : Int) / 2 ^ card.toNat) 1 = 1) := by
        unfold Tc.mHolds
        rw [decide_eq_true h0, Bool.true_and, bit_test]
      rw [e] at k
      exact k
    · have e : Tc.mHolds bits card = false := by
        unfold Tc.mHolds
        rw [decide_eq_false h0, Bool.false_and]
      rw [e] at k
      exact k
theorem setOf_step {ns : List Int} {i : Nat} {c : Int} (h : ns[i]? = some c) : Tc.mSetOf (ns.take (i + 1)) = Tc.mSetOf (ns.take i) ||| 2 ^ c.toNat := by
  unfold Tc.mSetOf
  rw [List.take_add_one, h, List.foldl_append]
  rfl
theorem ok_set_of (T : Txt K mg) : FnOk P w K mg base CX0 1 T.d_set_of.f T.d_set_of.fd ["cards"] (spSetOf K) := by
  have nd := sc_set_of.nd
  refine T.d_set_of.fn.ok sc_set_of (fun vs H Q E h => ?_) (fun cdv A outer s H vs Q E hr h => ?_)
  · obtain ⟨r, ns, rfl, _⟩ := h
    rfl
  · obtain ⟨r, ns, rfl, hs, hb, k⟩ := h
    refine ⟨_, (pss_cons (ps_set (i := 1) nd rfl (Or.inl rfl) pe_int)
      (pss_cons (ps_for PassesOwn.never rfl (pi_list (pv 0)) (pg_name (i := 2) nd rfl (Or.inl rfl)) (pss_one (ps_set (i := 1) nd rfl (Or.inl rfl) (pe_op op_or (pv 1) (pe_op op_shl pe_int (pv 2))))))
      (pss_one (ps_ret (pv 1))))), ?_⟩
    refine ⟨_, rfl, r, rfl, ⟨_, hs⟩, for_list (K := K) (a := r) (xs := ns.map V.int) (fun i σ H2 => ∃ v : Option V, σ = [some (.ref r), some (.int (Tc.mSetOf (ns.take i) : Nat)), v] ∧ H2 = H)
      ⟨none, rfl, rfl⟩ (fun i σ H2 _ ⟨_, _, e⟩ => by rw [e]; exact hs) ?_ ?_⟩
    · rintro i y σ H2 hi ⟨v, rfl, rfl⟩
      obtain ⟨c, hc, rfl⟩ : ∃ c, ns[i]? = some c ∧ y = V.int c := by
        rw [List.getElem?_map] at hi
        cases e : ns[i]? with
        | none => rw [e] at hi; cases hi
        | some c => rw [e] at hi; exact ⟨c, rfl, (Option.some.inj hi).symm⟩
      have hc2 := hb c (List.mem_of_getElem? hc)
      refine ⟨_, rfl, _, rfl, _, _, rfl, rfl, ⟨hc2.1, by omega, by decide⟩, _, _, rfl, rfl, ?_⟩
      refine ⟨some (V.int c), ?_, rfl⟩
      have e : Builtin.bitOr ((Tc.mSetOf (ns.take i) : Nat) : Int) (1 * 2 ^ c.toNat) = ((Tc.mSetOf (ns.take (i + 1)) : Nat) : Int) := by
        rw [setOf_step hc, ← bor]
        congr 1
        rw [Int.one_mul, Int.natCast_pow]
        rfl
      rw [← e]
      all_goals rfl
    · rintro σ H2 ⟨v, rfl, rfl⟩
      have e : ns.take (ns.map V.int).length = ns := by rw [List.length_map, List.take_length]
      refine ⟨_, rfl, ?_⟩
      rw [e]
      exact k
theorem ok_sayable (T : Txt K mg) : FnOk P w K mg base CX0 1 T.d_sayable.f T.d_sayable.fd ["declared", "from_hand"] (spSayable K) := by
  have nd := sc_sayable.nd
  refine T.d_sayable.fn.ok sc_sayable (fun vs H Q E h => ?_) (fun cdv A outer s H vs Q E hr h => ?_)
  · obtain ⟨d, fh, rfl, _⟩ := h
    rfl
  · obtain ⟨d, fh, rfl, k⟩ := h
    refine ⟨_, (pss_cons (ps_if (pt_cmp (pc_eqI (pv 0) (pe_gint rfl T.c_NULL))) (pss_one (ps_ret (pe_gseq rfl T.c_SAID_IN_NULL))) pss_nil)
      (pss_cons (ps_if (pt_val (pv 1)) (pss_one (ps_ret (pe_gseq rfl T.c_SAID_FROM_HAND))) pss_nil)
      (pss_one (ps_ret (pe_gseq rfl T.c_SAID_WITH_CARDS_TAKEN))))), ?_⟩
    refine ⟨_, rfl, _, _, rfl, rfl, _, rfl, itD (fun h0 => ?_) (fun h0 => ?_)⟩
    · intro r hs
      refine k r ?_
      unfold Tc.mSayable
      rw [if_pos h0]
      exact hs
    · refine ⟨_, rfl, _, rfl, ?_⟩
      unfold Tc.mSayable at k
      rw [if_neg h0] at k
      cases fh with
      | true => exact iteT fun r hs => k r hs
      | false => exact iteF fun r hs => k r hs
/-! ### the two cards -/
theorem hand_at {p : Tc.PG} (po : POk p) (h : p.phase = 3 ∨ p.phase = 4) : ∃ j : Nat, p.alone = (j : Int) ∧ j = p.alone.toNat ∧ j < 3 ∧ p.hands[j]? = some (p.hands.getD j 0) ∧ (hv p)[j]? = some (V.int ((p.hands.getD j 0 : Nat) : Int)) := hand_seat po (po.alone h)
theorem holds_lt {m : Nat} {x : Int} (hm : m < 2 ^ 32) (h : Tc.mHolds m x = true) : 0 ≤ x ∧ x < 32 := by
  unfold Tc.mHolds at h
  rw [Bool.and_eq_true, decide_eq_true_eq] at h
  refine ⟨h.1, ?_⟩
  have h0 := h.1
  have : ¬ 32 ≤ x.toNat := fun z => by
    have e := Nat.testBit_lt_two_pow (Nat.lt_of_lt_of_le hm (Nat.pow_le_pow_right (by decide) z))
    rw [h.2] at e
    cases e
  omega
theorem hv_len {p : Tc.PG} (po : POk p) : (hv p).length = 3 := by unfold hv; rw [List.length_map]; exact po.three
theorem ok_take (T : Txt K mg) : FnOk P w K mg base CX0 1 T.d_take.f T.d_take.fd ["game", "yes"] (spG T.k_Game.C anyway Tc.mTake) := by
  have nd := sc_take.nd
  refine T.d_take.fn.ok sc_take (fun vs H Q E h => ?_) (fun cdv A outer s H vs Q E hr h => ?_)
  · obtain ⟨a, l, t, en, p, x, rfl, _⟩ := h
    rfl
  · obtain ⟨a, l, t, en, p, x, rfl, G, po, pr, k⟩ := h
    have ne := G.ne
    have G0 := G
    obtain ⟨⟨dx, h1⟩, hl⟩ := G
    refine ⟨_, (pss_cons (ps_if (pt_cmp (pc_neI (pe_fld (pv 0) rfl) (pe_gint rfl T.c_TAKING_AWAITED))) (pss_one (ps_ret (pe_gint rfl T.c_REFUSED))) pss_nil)
      (pss_cons (ps_if (pt_cmp (pc_eqI (pv 1) pe_int)) (pss_cons (ps_fld (pv 0) pe_bl rfl)
      (pss_cons (ps_fld (pv 0) (pe_gint rfl T.c_DECLARATION_AWAITED) rfl)
      (pss_one (ps_ret (pe_fld (pv 0) rfl))))) pss_nil)
      (pss_cons (ps_asg (pe_op op_or (pe_ix ix_list (pe_fld (pv 0) rfl) (pe_fld (pv 0) rfl) (fun _ _ => rfl)) (pe_fld (pv 0) rfl)) (pg_sub (pe_fld (pv 0) rfl) (pe_fld (pv 0) rfl) set_list))
      (pss_cons (ps_fld (pv 0) pe_int rfl)
      (pss_cons (ps_fld (pv 0) (pe_gint rfl T.c_LAYING_AWAITED) rfl)
      (pss_one (ps_ret (pe_fld (pv 0) rfl)))))))), ?_⟩
    refine ⟨_, rfl, rd_fld (i := 2) h1 T.k_Game.cl (T.k_Game.no 2 _ rfl) nd_Game rfl rfl ⟨_, _, rfl, rfl, _, rfl, itN (fun hc => ?_) (fun hc => ?_)⟩⟩
    · have e : Tc.mTake p x = (p, -1) := if_pos hc
      rw [e] at k
      exact k H G0 But2.refl
    have e1 : Tc.mTake p x = _ := if_neg (fun z => z hc)
    refine ⟨_, rfl, _, _, rfl, rfl, _, rfl, itD (fun h0 => ?_) (fun h0 => ?_)⟩
    · rw [if_pos h0] at e1
      rw [e1] at k
      refine ⟨_, rfl, st_fld (i := 8) h1 T.k_Game.cl (T.k_Game.no 8 _ rfl) nd_Game rfl rfl (by decide) ?_⟩
      refine ⟨_, rfl, st_fldU (i := 2) T.k_Game.cl (T.k_Game.no 2 _ rfl) nd_Game rfl rfl (by decide) ?_⟩
      refine ⟨_, rfl, rd_fldU (i := 2) T.k_Game.cl (T.k_Game.no 2 _ rfl) nd_Game rfl rfl ?_⟩
      exact k _ ⟨⟨dx, upd_same⟩, by rw [upd_ne ne]; exact hl⟩ But2.upd
    · rw [if_neg h0] at e1
      rw [e1] at k
      obtain ⟨j, ej, ej2, j3, hj, hjv⟩ := hand_at po (.inl hc)
      refine ⟨_, rfl, rd_fld (i := 0) h1 T.k_Game.cl (T.k_Game.no 0 _ rfl) nd_Game rfl rfl ⟨_, rfl, rd_fld (i := 6) h1 T.k_Game.cl (T.k_Game.no 6 _ rfl) nd_Game rfl rfl ⟨l, _, _, _, rfl, rfl, SqL.of hl, atI_in ej hjv, _, rfl, rd_fld (i := 1) h1 T.k_Game.cl (T.k_Game.no 1 _ rfl) nd_Game rfl rfl ⟨_, _, rfl, rfl, ?_⟩⟩⟩⟩
      refine ⟨_, rfl, rd_fld (i := 0) h1 T.k_Game.cl (T.k_Game.no 0 _ rfl) nd_Game rfl rfl ⟨_, rfl, rd_fld (i := 6) h1 T.k_Game.cl (T.k_Game.no 6 _ rfl) nd_Game rfl rfl ⟨l, _, _, j, rfl, rfl, hl, by rw [ej]; exact ixN_nat (by rw [hv_len po]; exact j3), ?_⟩⟩⟩
      have h1' : ∀ o, (upd H l o) a = some (.ins T.k_Game.C dx (ks_Game.zip (gv l t en p))) := fun o => by rw [upd_ne ne.symm]; exact h1
      refine ⟨_, rfl, st_fld (i := 1) (h1' _) T.k_Game.cl (T.k_Game.no 1 _ rfl) nd_Game rfl rfl (by decide) ?_⟩
      refine ⟨_, rfl, st_fldU (i := 2) T.k_Game.cl (T.k_Game.no 2 _ rfl) nd_Game rfl rfl (by decide) ?_⟩
      refine ⟨_, rfl, rd_fldU (i := 2) T.k_Game.cl (T.k_Game.no 2 _ rfl) nd_Game rfl rfl ?_⟩
      refine k _ ⟨⟨dx, upd_same⟩, ?_⟩ fun b o e n1 n2 => by rw [upd_ne n1, upd_ne n2]; exact e
      rw [upd_ne ne, upd_same]
      dsimp only
      rw [bor, ← ej2]
      unfold hv
      rw [List.map_set]
theorem ok_lay (T : Txt K mg) : FnOk P w K mg base CX0 2 T.d_lay.f T.d_lay.fd ["game", "a", "b"] (spG2 T.k_Game.C Tc.mLay) := by
  have nd := sc_lay.nd
  have G_holds : FnOk P w K mg base CX0 1 _ _ _ _ := ok_holds T
  have G_set_of : FnOk P w K mg base CX0 1 _ _ _ _ := ok_set_of T
  refine T.d_lay.fn.ok sc_lay (fun vs H Q E h => ?_) (fun cdv A outer s H vs Q E hr h => ?_)
  · obtain ⟨a, l, t, en, p, x, y, rfl, _⟩ := h
    rfl
  · obtain ⟨a, l, t, en, p, x, y, rfl, G, po, k⟩ := h
    have ne := G.ne
    have G0 := G
    obtain ⟨⟨dx, h1⟩, hl⟩ := G
    have hr_holds := hr
    have hr_set_of := hr
    refine ⟨_, (pss_cons (ps_if (pt_cmp (pc_neI (pe_fld (pv 0) rfl) (pe_gint rfl T.c_LAYING_AWAITED))) (pss_one (ps_ret (pe_gint rfl T.c_REFUSED))) pss_nil)
      (pss_cons (ps_set (i := 3) nd rfl (Or.inl rfl) (pe_ix ix_list (pe_fld (pv 0) rfl) (pe_fld (pv 0) rfl) (fun _ _ => rfl)))
      (pss_cons (ps_if (PW.pt (pw_or (pt_cmp (pc_eqI (pv 1) (pv 2))) (pw_or (pt_not (pt_val (pe_def T.d_holds G_holds hr_holds rfl (pa_cons (pv 3) (pa_cons (pv 1) pa_nil))))) (pw_or1 (pt_not (pt_val (pe_def T.d_holds G_holds hr_holds rfl (pa_cons (pv 3) (pa_cons (pv 2) pa_nil))))))))) (pss_one (ps_ret (pe_gint rfl T.c_REFUSED))) pss_nil)
      (pss_cons (ps_fld (pv 0) (pe_def T.d_set_of G_set_of hr_set_of rfl (pa_cons (pe_lst (pa_cons (pv 1) (pa_cons (pv 2) pa_nil))) pa_nil)) rfl)
      (pss_cons (ps_asg (pe_op op_xor (pv 3) (pe_fld (pv 0) rfl)) (pg_sub (pe_fld (pv 0) rfl) (pe_fld (pv 0) rfl) set_list))
      (pss_cons (ps_fld (pv 0) (pe_gint rfl T.c_DECLARATION_AWAITED) rfl)
      (pss_one (ps_ret (pe_fld (pv 0) rfl))))))))), ?_⟩
    refine ⟨_, rfl, rd_fld (i := 2) h1 T.k_Game.cl (T.k_Game.no 2 _ rfl) nd_Game rfl rfl ⟨_, _, rfl, rfl, _, rfl, itN (fun hc => ?_) (fun hc => ?_)⟩⟩
    · have e : Tc.mLay p x y = (p, -1) := if_pos hc
      rw [e] at k
      exact k H G0 But2.refl
    have e1 : Tc.mLay p x y = _ := if_neg (fun z => z hc)
    obtain ⟨j, ej, ej2, j3, hj, hjv⟩ := hand_at po (.inr hc)
    rw [← ej2] at e1
    refine ⟨_, rfl, rd_fld (i := 0) h1 T.k_Game.cl (T.k_Game.no 0 _ rfl) nd_Game rfl rfl ⟨_, rfl, rd_fld (i := 6) h1 T.k_Game.cl (T.k_Game.no 6 _ rfl) nd_Game rfl rfl ⟨l, _, _, _, rfl, rfl, SqL.of hl, atI_in ej hjv, ?_⟩⟩⟩
    refine ⟨_, rfl, _, rfl, _, _, rfl, rfl, _, rfl, itD (fun hab => ?_) (fun hab => ?_)⟩
    · refine iteT ?_
      rw [if_pos (.inl hab)] at e1
      rw [e1] at k
      exact k H G0 But2.refl
    refine ⟨_, rfl, _, rfl, _, _, rfl, _, rfl, ?_⟩
    cases hA : Tc.mHolds (p.hands.getD j 0) x with
    | false =>
      refine iteT (iteT ?_)
      rw [if_pos (.inr (.inl hA))] at e1
      rw [e1] at k
      exact k H G0 But2.refl
    | true =>
      refine iteF ⟨_, rfl, _, rfl, _, _, rfl, _, rfl, ?_⟩
      cases hB : Tc.mHolds (p.hands.getD j 0) y with
      | false =>
        refine iteT ?_
        rw [if_pos (.inr (.inr hB))] at e1
        rw [e1] at k
        exact k H G0 But2.refl
      | true =>
        refine iteF ?_
        have c2 : ¬ (x = y ∨ Tc.mHolds (p.hands.getD j 0) x = false ∨ Tc.mHolds (p.hands.getD j 0) y = false) := by
          intro z
          rcases z with z | z | z
          · exact hab z
          · rw [hA] at z; cases z
          · rw [hB] at z; cases z
        rw [if_neg c2] at e1
        rw [e1] at k
        have hm := po.small _ (List.mem_of_getElem? hj)
        have hx := holds_lt hm hA
        have hy := holds_lt hm hB
        refine ⟨_, rfl, _, rfl, (by show 2 ≤ sizeLine; decide), fun q hq => ⟨q, [x, y], rfl, SqL.of upd_same, fun c hc => by simp at hc; omega, ?_⟩⟩
        have qa : a ≠ q := ne_of_none h1 hq
        have ql : l ≠ q := ne_of_none hl hq
        have h1q : ∀ o, (upd H q o) a = some (.ins T.k_Game.C dx (ks_Game.zip (gv l t en p))) := fun o => by rw [upd_ne qa]; exact h1
        refine ⟨_, rfl, st_fld (i := 1) (h1q _) T.k_Game.cl (T.k_Game.no 1 _ rfl) nd_Game rfl rfl (by decide) ?_⟩
        refine ⟨_, rfl, _, rfl, rd_fldU (i := 1) T.k_Game.cl (T.k_Game.no 1 _ rfl) nd_Game rfl rfl ⟨_, _, rfl, rfl, ?_⟩⟩
        refine ⟨_, rfl, rd_fldU (i := 0) T.k_Game.cl (T.k_Game.no 0 _ rfl) nd_Game rfl rfl ⟨_, rfl, rd_fldU (i := 6) T.k_Game.cl (T.k_Game.no 6 _ rfl) nd_Game rfl rfl ⟨l, hv p, _, j, rfl, rfl, by rw [upd_ne ne, upd_ne ql]; exact hl, by rw [ej]; exact ixN_nat (by rw [hv_len po]; exact j3), ?_⟩⟩⟩
        refine ⟨_, rfl, st_fld (i := 2) (by rw [upd_ne ne.symm]; exact upd_same) T.k_Game.cl (T.k_Game.no 2 _ rfl) nd_Game rfl rfl (by decide) ?_⟩
        refine ⟨_, rfl, rd_fldU (i := 2) T.k_Game.cl (T.k_Game.no 2 _ rfl) nd_Game rfl rfl ?_⟩
        have es : Tc.mSetOf [x, y] = 2 ^ x.toNat ||| 2 ^ y.toNat := by
          show (0 ||| 2 ^ x.toNat) ||| 2 ^ y.toNat = _
          rw [Nat.zero_or]
        rw [← es] at k
        refine k _ ⟨⟨dx, upd_same⟩, ?_⟩ fun b o e n1 n2 => by rw [upd_ne n1, upd_ne n2, upd_ne n1, upd_ne (ne_of_none e hq)]; exact e
        rw [upd_ne ne, upd_same]
        dsimp only
        rw [bxor]
        unfold hv
        rw [List.map_set]
theorem ok_declare (T : Txt K mg) : FnOk P w K mg base CX0 2 T.d_declare.f T.d_declare.fd ["game", "declared", "said"] (spG2 T.k_Game.C Tc.mDeclare) := by
  have nd := sc_declare.nd
  have G_sayable : FnOk P w K mg base CX0 1 _ _ _ _ := ok_sayable T
  refine T.d_declare.fn.ok sc_declare (fun vs H Q E h => ?_) (fun cdv A outer s H vs Q E hr h => ?_)
  · obtain ⟨a, l, t, en, p, x, y, rfl, _⟩ := h
    rfl
  · obtain ⟨a, l, t, en, p, x, y, rfl, G, po, k⟩ := h
    have ne := G.ne
    have G0 := G
    obtain ⟨⟨dx, h1⟩, hl⟩ := G
    have hr_sayable := hr
    refine ⟨_, (pss_cons (ps_if (pt_cmp (pc_neI (pe_fld (pv 0) rfl) (pe_gint rfl T.c_DECLARATION_AWAITED))) (pss_one (ps_ret (pe_gint rfl T.c_REFUSED))) pss_nil)
      (pss_cons (ps_if (PW.pt (pw_or (pt_cmpR op_notIn_seq (pv 1) (pe_gseq rfl T.c_GAMES) rfl) (pw_or1 (pt_cmpR op_notIn_seq (pv 2) (pe_def T.d_sayable G_sayable hr_sayable rfl (pa_cons (pv 1) (pa_cons (pe_fld (pv 0) rfl) pa_nil))) rfl)))) (pss_one (ps_ret (pe_gint rfl T.c_REFUSED))) pss_nil)
      (pss_cons (ps_fld (pv 0) (pv 1) rfl)
      (pss_cons (ps_fld (pv 0) (pv 2) rfl)
      (pss_cons (ps_fld (pv 0) (pe_gint rfl T.c_PLAYING) rfl)
      (pss_one (ps_ret (pe_fld (pv 0) rfl)))))))), ?_⟩
    refine ⟨_, rfl, rd_fld (i := 2) h1 T.k_Game.cl (T.k_Game.no 2 _ rfl) nd_Game rfl rfl ⟨_, _, rfl, rfl, _, rfl, itN (fun hc => ?_) (fun hc => ?_)⟩⟩
    · have e : Tc.mDeclare p x y = (p, -1) := if_pos hc
      rw [e] at k
      exact k H G0 But2.refl
    have e1 : Tc.mDeclare p x y = _ := if_neg (fun z => z hc)
    refine ⟨_, rfl, fun r hseq => ⟨r, _, rfl, .inr (hseq _), rfl, flat_ints _, _, rfl, ?_⟩⟩
    show if (!inV (V.int x) (([0, 1, 2, 3, 4, 5] : List Int).map V.int)) = true then _ else _
    rw [inV_ints]
    refine itN (fun hn => ?_) (fun hn => ?_)
    · refine iteT ?_
      rw [if_pos (.inl hn)] at e1
      rw [e1] at k
      exact k H G0 But2.refl
    refine ⟨_, rfl, _, rfl, _, rfl, rd_fld (i := 8) h1 T.k_Game.cl (T.k_Game.no 8 _ rfl) nd_Game rfl rfl ⟨x, p.fromHand, rfl, fun r2 hs2 => ⟨r2, _, rfl, .inr (hs2 _), rfl, flat_ints _, _, rfl, ?_⟩⟩⟩
    show if (!inV (V.int y) ((Tc.mSayable x p.fromHand).map V.int)) = true then _ else _
    rw [inV_ints]
    refine itN (fun hm => ?_) (fun hm => ?_)
    · rw [if_pos (.inr hm)] at e1
      rw [e1] at k
      exact k H G0 But2.refl
    · rw [if_neg (fun z => z.elim (fun z => z hn) fun z => z hm)] at e1
      rw [e1] at k
      refine ⟨_, rfl, _, rfl, st_fld (i := 9) h1 T.k_Game.cl (T.k_Game.no 9 _ rfl) nd_Game rfl rfl (by decide) ?_⟩
      refine ⟨_, rfl, _, rfl, st_fldU (i := 10) T.k_Game.cl (T.k_Game.no 10 _ rfl) nd_Game rfl rfl (by decide) ?_⟩
      refine ⟨_, rfl, st_fldU (i := 2) T.k_Game.cl (T.k_Game.no 2 _ rfl) nd_Game rfl rfl (by decide) ?_⟩
      refine ⟨_, rfl, rd_fldU (i := 2) T.k_Game.cl (T.k_Game.no 2 _ rfl) nd_Game rfl rfl ?_⟩
      exact k _ ⟨⟨dx, upd_same⟩, by rw [upd_ne ne]; exact hl⟩ But2.upd
end
end Prog
namespace Prog
open PySem L2
/-! ### cards, points -/
def ic (l : List Nat) : List Int := l.map fun (c : Nat) => (c : Int)
theorem ic_len {l : List Nat} : ((ic l).map V.int).length = l.length := by unfold ic; rw [List.length_map, List.length_map]
theorem ints_at {ns : List Int} {i : Nat} {y : V} (h : (ns.map V.int)[i]? = some y) : ∃ c, ns[i]? = some c ∧ y = V.int c := by
  rw [List.getElem?_map] at h
  cases e : ns[i]? with
  | none => rw [e] at h; cases h
  | some c => rw [e] at h; exact ⟨c, rfl, (Option.some.inj h).symm⟩
theorem ic_mem {l : List Nat} {c : Int} (h : c ∈ ic l) : ∃ n : Nat, n ∈ l ∧ c = (n : Int) := by
  obtain ⟨n, hn, rfl⟩ := List.mem_map.mp h
  exact ⟨n, hn, rfl⟩
theorem first_of : ∀ {ns : List Int} {m : Int}, m ∈ ns → ∃ j : Nat, ns[j]? = some m ∧ ∀ (i : Nat) (y : Int), i < j → ns[i]? = some y → y ≠ m
  | [], m, h => by cases h
  | x :: r, m, h => by
    by_cases e : x = m
    · exact ⟨0, by rw [e]; rfl, fun i y hi _ => absurd hi (Nat.not_lt_zero i)⟩
    · rcases List.mem_cons.mp h with z | z
      · exact absurd z.symm e
      · obtain ⟨j, h1, h2⟩ := first_of z
        refine ⟨j + 1, h1, fun i y hi hy => ?_⟩
        cases i with
        | zero => simp at hy; rw [← hy]; exact e
        | succ i => exact h2 i y (by omega) (by simpa using hy)
theorem atI_last {xs : List V} {x : V} : atI (xs ++ [x]) (-1) = some x := by
  have e : ixN (xs ++ [x]).length (-1) = some xs.length := by
    unfold ixN
    rw [if_neg (by decide), List.length_append, List.length_singleton, if_pos (by omega)]
    congr 1
    omega
  unfold atI
  rw [e]
  show (xs ++ [x])[xs.length]? = some x
  rw [List.getElem?_append_right (Nat.le_refl _)]
  simp
def spCardsIn : Sp := fun vs H Q _ => ∃ m : Nat, vs = [.int (m : Int)] ∧ m < 2 ^ 32 ∧ ∀ r H', H' r = some (.lst ((ic (Tc.mCards m)).map V.int)) → H r = none → Same H H' → Q (.ref r) H'
def spCounted : Sp := fun vs H Q _ => ∃ m : Nat, vs = [.int (m : Int)] ∧ m < 2 ^ 32 ∧ ∀ r H', H' r = some (.lst ((Tc.mCounted m).map V.int)) → H r = none → Same H H' → Q (.ref r) H'
def spPointsOf (K : PySem.W.Frag) : Sp := fun vs H Q _ => ∃ (r : Addr) (cs : List Nat), vs = [.ref r] ∧ SqL K H r ((ic cs).map V.int) ∧ cs.length ≤ 100 ∧ ∀ H', Same H H' → Q (.int ((cs.map Rc32.points).sum : Nat)) H'
section
variable {P : Program} {w : World} {K : PySem.W.Frag} {mg : Str → Option Value} {base : Heap}
theorem ok_cards_in (T : Txt K mg) : FnOk P w K mg base CX0 1 T.d_cards_in.f T.d_cards_in.fd ["bits"] spCardsIn := by
  have nd := sc_cards_in.nd
  refine T.d_cards_in.fn.ok sc_cards_in (fun vs H Q E h => ?_) (fun cdv A outer s H vs Q E hr h => ?_)
  · obtain ⟨m, rfl, _⟩ := h
    rfl
  · obtain ⟨m, rfl, hm, k⟩ := h
    refine ⟨_, (pss_cons (ps_set (i := 1) nd rfl (Or.inl rfl) (pe_lst pa_nil))
      (pss_cons (ps_while PassesOwn.never (pt_cmp (pc_neI (pv 0) pe_int)) (pss_cons (ps_expr (pe_bm PySem.F.plainAttrs_list PySem.F.slot_list_append PySem.F.type_list_append mt_append (pv 1) (pa_cons (pe_op op_sub (pe_bm0 PySem.F.plainAttrs_int PyProof.Rows.slot_int_bit_length PyProof.Rows.type_int_bit_length mt_bitlen (pv 0)) pe_int) pa_nil)))
      (pss_one (ps_set (i := 0) nd rfl (Or.inl rfl) (pe_op op_xor (pv 0) (pe_op op_shl pe_int (pe_ix ix_list (pv 1) (pe_un un_neg pe_int) (fun _ _ => rfl))))))))
      (pss_one (ps_ret (pv 1))))), ?_⟩
    refine ⟨(by show 0 ≤ sizeLine; decide), fun r fr => ?_⟩
    refine while_by (fun σ H2 => ∃ (b : Nat) (done : List Nat), σ = [some (.int (b : Int)), some (.ref r)] ∧ b < 2 ^ 32 ∧ Tc.mCards m = done ++ Tc.mCards b ∧ H2 = upd H r (.lst ((ic done).map V.int)))
      (fun (σ : St) (_ : Hp) => match σ[0]? with | some (some (V.int j)) => j.toNat | _ => 0) ⟨m, [], rfl, hm, rfl, rfl⟩ ?turn ?mono
    case mono =>
      intro σ H2 Q1 Q2 hq h
      obtain ⟨v, e1, i, j, e2, e3, b, e4, h⟩ := h
      exact ⟨v, e1, i, j, e2, e3, b, e4, hq _ _ h⟩
    case turn =>
      rintro σ H2 ⟨b, done, rfl, hb, hd, rfl⟩
      refine ⟨_, rfl, _, _, rfl, rfl, _, rfl, itN (fun h0 => ?_) (fun h0 => ?_)⟩
      · obtain ⟨j, e1, h1, h2⟩ := bits_top (m := b) (by omega)
        have ct := Tc.cards_top hb h1 h2
        have lt := Tc.xor_top h1 h2
        have dl : done.length ≤ 32 := by
          have := Tc.mCards_len_le m
          rw [hd, List.length_append] at this
          omega
        have sl : (10000 : Nat) < sizeLine := by decide
        have j32 : j < 32 := by
          refine Nat.lt_of_not_le fun z => ?_
          have := Nat.pow_le_pow_right (n := 2) (by decide) z
          omega
        refine ⟨_, rfl, .inl ⟨rfl, _, SqL.of upd_same⟩, _, rfl, rfl, _, rfl, rfl, _, _, rfl, rfl, r, _, _, rfl, rfl, upd_same, by rw [ic_len]; omega, ?_⟩
        dsimp only
        rw [e1]
        refine ⟨_, rfl, _, rfl, _, rfl, r, _, _, _, rfl, rfl, SqL.of upd_same, atI_last, _, _, rfl, rfl, ⟨by omega, by omega, by decide⟩, _, _, rfl, rfl, ?_⟩
        have ex : Builtin.bitXor (b : Int) (1 * 2 ^ ((j : Int)).toNat) = ((b ^^^ 2 ^ j : Nat) : Int) := by
          rw [← bxor]
          congr 1
          rw [Int.one_mul, Int.toNat_natCast, Int.natCast_pow]
          rfl
        refine ⟨⟨b ^^^ 2 ^ j, done ++ [j], ?_, by omega, ?_, ?_⟩, ?_⟩
        · rw [← ex]; rfl
        · rw [hd, ct]; simp
        · rw [upd_upd]
          unfold ic
          simp
        · show Int.toNat (Builtin.bitXor (b : Int) (1 * 2 ^ ((j : Int)).toNat)) < Int.toNat (b : Int)
          rw [ex]
          omega
      · have hz : b = 0 := by omega
        subst hz
        rw [Tc.mCards_zero, List.append_nil] at hd
        refine ⟨_, rfl, k r _ (by rw [hd]; exact upd_same) fr (Same.upd fr)⟩
theorem ok_counted (T : Txt K mg) : FnOk P w K mg base CX0 2 T.d_counted.f T.d_counted.fd ["bits"] spCounted := by
  have nd := sc_counted.nd
  have G_cards_in : FnOk P w K mg base CX0 1 _ _ _ _ := ok_cards_in T
  refine T.d_counted.fn.ok sc_counted (fun vs H Q E h => ?_) (fun cdv A outer s H vs Q E hr h => ?_)
  · obtain ⟨m, rfl, _⟩ := h
    rfl
  · obtain ⟨m, rfl, hm, k⟩ := h
    have hr_cards_in := hr
    refine ⟨_, (pss_one (ps_ret (pe_lst (pa_cons (pe_callB call_len_seq (by rfl) T.nLen PySem.boot_len (pa_cons (pe_def T.d_cards_in G_cards_in hr_cards_in rfl (pa_cons (pv 0) pa_nil)) pa_nil)) (pa_cons (pv 0) pa_nil))))), ?_⟩
    refine ⟨_, rfl, m, rfl, hm, fun r H1 h1 fr s1 => ⟨r, _, rfl, .inl (SqL.of h1), _, rfl, (by show 2 ≤ sizeLine; decide), fun q fq => k q _ ?_ (s1.free fq) (s1.trans (Same.upd fq))⟩⟩
    rw [upd_same, ic_len]
    rfl
theorem points_get (c : Nat) : (([0, 0, 0, 3, 4, 10, 11, 2] : List Int).map V.int)[c % 8]? = some (V.int (Rc32.points c : Nat)) := by
  have h : c % 8 < 8 := Nat.mod_lt _ (by decide)
  unfold Rc32.points Rc32.rank
  generalize c % 8 = x at h
  match x, h with
  | 0, _ => rfl
  | 1, _ => rfl
  | 2, _ => rfl
  | 3, _ => rfl
  | 4, _ => rfl
  | 5, _ => rfl
  | 6, _ => rfl
  | 7, _ => rfl
theorem sum_ic (cs : List Nat) : ((ic cs)).sum = ((cs.sum : Nat) : Int) := by
  induction cs with
  | nil => rfl
  | cons a r ih =>
    show (a : Int) + (ic r).sum = _
    rw [ih, List.sum_cons]
    omega
theorem ok_points_of (T : Txt K mg) : FnOk P w K mg base CX0 1 T.d_points_of.f T.d_points_of.fd ["cards"] (spPointsOf K) := by
  have nd := sc_points_of.nd
  refine T.d_points_of.fn.ok sc_points_of (fun vs H Q E h => ?_) (fun cdv A outer s H vs Q E hr h => ?_)
  · obtain ⟨r, cs, rfl, _⟩ := h
    rfl
  · obtain ⟨r, cs, rfl, hs, hz, k⟩ := h
    have sl : (10000 : Nat) < sizeLine := by decide
    refine ⟨_, (pss_one (ps_ret (pe_callB (cr_sum rfl) (by rfl) T.nSum PyProof.Rows.boot_sum (pa_cons (pe_lc (own := [("card", 1)]) rfl nd (pi_list (pv 0)) (blk_of (N := ["cards", "card"]) (sc := defScope s_points_of) rfl rfl ⟨rfl, by decide +kernel, by decide +kernel, by decide +kernel, by decide +kernel⟩) (fun _ _ _ _ _ => pg_name (i := 1) nd rfl (Or.inl rfl)) (fun _ _ _ _ _ => pts_nil) (by intro _ _ _ _ _; exact (pe_ix (ix_tupB (K := K) rfl) (pe_gseqB (K := K) rfl rfl T.c_POINTS) (pe_op op_mod (pv 1) (pe_gint rfl T.c_RANKS_OF_A_SUIT)) (fun _ _ => rfl)))) pa_nil)))), ?_⟩
    refine ⟨_, rfl, r, rfl, ⟨_, hs⟩, fun D fD => lc_list (K := K) (a := r) (xs := (ic cs).map V.int) (fun i H2 => H2 = upd H D (.lst ((ic ((cs.take i).map Rc32.points)).map V.int))) rfl (fun i H2 _ e => by rw [e]; exact (Same.upd fD).seq hs) ?_ ?_⟩
    · rintro i y H2 hi rfl
      obtain ⟨c, hc, rfl⟩ := ints_at hi
      obtain ⟨n, hn, rfl⟩ := ic_mem (List.mem_of_getElem? hc)
      have hn' : cs[i]? = some n := by
        unfold ic at hc
        rw [List.getElem?_map] at hc
        cases e : cs[i]? with
        | none => rw [e] at hc; cases hc
        | some x =>
          rw [e] at hc
          have := Option.some.inj hc
          congr 1
          exact Int.ofNat.inj this
      refine ⟨rfl, ?_⟩
      dsimp only [tYes]
      refine iteT ?_
      refine fun a ha => ⟨_, rfl, _, _, rfl, rfl, (by show (0 : Int) < 8; decide), a, _, _, _, rfl, rfl, ha _, atI_in (j := n % 8) (by omega) (points_get n), ?_⟩
      refine ⟨_, upd_same, ?_, ?_⟩
      · rw [ic_len, List.length_map, List.length_take]; omega
      · rw [upd_upd, List.take_add_one, hn']
        unfold ic
        simp
    · rintro H2 rfl
      have e : cs.take ((ic cs).map V.int).length = cs := by rw [ic_len, List.take_length]
      rw [e]
      refine ⟨D, _, rfl, SqL.of upd_same, ?_⟩
      rw [sum_ic]
      exact k _ (Same.upd fD)
end
end Prog
namespace Prog
open PySem L2
/-! ### what is trump, what follows, who takes a trick -/
def spSuit (K : PySem.W.Frag) : Sp := fun vs H Q _ => ∃ (s : Int) (r : Addr) (rs : List Int), vs = [.int s, .ref r] ∧ (∀ H', SqT K H' r (rs.map V.int)) ∧ rs.length ≤ 100 ∧
  ∀ q H', H' q = some (.lst ((Tc.mSuit s rs).map V.int)) → H q = none → Same H H' → Q (.ref q) H'
def spTrumps : Sp := fun vs H Q _ => ∃ (d : Int), vs = [.int d] ∧ ∀ q H', H' q = some (.lst ((Tc.mTrumps d).map V.int)) → H q = none → Same H H' → Q (.ref q) H'
def spFollowers : Sp := fun vs H Q _ => ∃ (d led : Int), vs = [.int d, .int led] ∧ ∀ q H', H' q = some (.lst ((Tc.mFollowers d led).map V.int)) → H q = none → Same H H' → Q (.ref q) H'
def spPlayable : Sp := fun vs H Q _ => ∃ (h f : Nat), vs = [.int (h : Int), .int (f : Int)] ∧ Q (.int (Tc.mPlayable h f : Nat)) H
def spPIT (K : PySem.W.Frag) : Sp := fun vs H Q _ => ∃ (d h : Nat) (r : Addr) (ts : List Nat), vs = [.int (d : Int), .int (h : Int), .ref r] ∧ d < 6 ∧ SqL K H r ((ic ts).map V.int) ∧ (∀ c ∈ ts, c < 32) ∧
  ∀ H', Same H H' → Q (.int (Tc.mPlayableIn (d : Nat) h (ic ts) : Nat)) H'
def spStr : Sp := fun vs H Q _ => ∃ (d led : Nat), vs = [.int (d : Int), .int (led : Int)] ∧ d < 6 ∧ led < 32 ∧ ∀ q H', H' q = some (.lst ((Tc.mStr (d : Nat) (led : Nat)).map V.int)) → H q = none → Same H H' → Q (.ref q) H'
def spPlace (K : PySem.W.Frag) : Sp := fun vs H Q _ => ∃ (r t : Addr) (ss : List Int) (ts : List Nat), vs = [.ref r, .ref t] ∧ SqL K H r (ss.map V.int) ∧ SqL K H t ((ic ts).map V.int) ∧ ts ≠ [] ∧ ts.length ≤ 100 ∧ (∀ c ∈ ts, c < ss.length) ∧
  ∀ j H', Tc.FirstMax ((ic ts).map fun (c : Int) => ss.getD c.toNat 0) j → Same H H' → Q (.int (j : Nat)) H'
section
variable {P : Program} {w : World} {K : PySem.W.Frag} {mg : Str → Option Value} {base : Heap}
theorem ok_cards_of_suit (T : Txt K mg) : FnOk P w K mg base CX0 1 T.d_cards_of_suit.f T.d_cards_of_suit.fd ["suit", "ranks"] (spSuit K) := by
  have nd := sc_cards_of_suit.nd
  refine T.d_cards_of_suit.fn.ok sc_cards_of_suit (fun vs H Q E h => ?_) (fun cdv A outer s H vs Q E hr h => ?_)
  · obtain ⟨d, r, rs, rfl, _⟩ := h
    rfl
  · obtain ⟨d, r, rs, rfl, hs, hz, k⟩ := h
    refine ⟨_, (pss_one (ps_ret (pe_lc (own := [("rank", 2)]) rfl nd (pi_tup (pv 1)) (blk_of (N := ["suit", "ranks", "rank"]) (sc := defScope s_cards_of_suit) rfl rfl ⟨rfl, by decide +kernel, by decide +kernel, by decide +kernel, by decide +kernel⟩) (fun _ _ _ _ _ => pg_name (i := 2) nd rfl (Or.inl rfl)) (fun _ _ _ _ _ => pts_nil) (by intro _ _ _ _ _; exact (pe_op op_add (pe_op op_mul (pe_gint rfl T.c_RANKS_OF_A_SUIT) (pv 0)) (pv 2)))))), ?_⟩
    have sl : (10000 : Nat) < sizeLine := by decide
    refine ⟨_, rfl, r, rfl, ⟨_, hs _⟩, fun D fD => lc_tup (K := K) (a := r) (xs := rs.map V.int) (fun i H2 => H2 = upd H D (.lst (((rs.take i).map fun x => 8 * d + x).map V.int))) rfl (fun i H2 _ e => hs H2) ?_ ?_⟩
    · rintro i y H2 hi rfl
      obtain ⟨c, hc, rfl⟩ := ints_at hi
      refine ⟨rfl, ?_⟩
      dsimp only [tYes]
      refine iteT ?_
      refine ⟨_, rfl, _, _, rfl, rfl, .inl ⟨by decide, by decide⟩, _, rfl, _, _, rfl, rfl, ?_⟩
      refine ⟨_, upd_same, ?_, ?_⟩
      · rw [List.length_map, List.length_map, List.length_take]; omega
      · rw [upd_upd, List.take_add_one, hc]
        simp
    · rintro H2 rfl
      refine k D _ ?_ fD (Same.upd fD)
      rw [upd_same, List.length_map, List.take_length]
      rfl
theorem ok_trumps (T : Txt K mg) : FnOk P w K mg base CX0 2 T.d_trumps.f T.d_trumps.fd ["declared"] spTrumps := by
  have nd := sc_trumps.nd
  have G_cards_of_suit : FnOk P w K mg base CX0 1 _ _ _ _ := ok_cards_of_suit T
  refine T.d_trumps.fn.ok sc_trumps (fun vs H Q E h => ?_) (fun cdv A outer s H vs Q E hr h => ?_)
  · obtain ⟨d, rfl, _⟩ := h
    rfl
  · obtain ⟨d, rfl, k⟩ := h
    have hr_cards_of_suit := hr
    refine ⟨_, (pss_cons (ps_if (pt_cmp (pc_eqI (pv 0) (pe_gint rfl T.c_NULL))) (pss_one (ps_ret (pe_lst pa_nil))) pss_nil)
      (pss_cons (ps_if (pt_cmp (pc_eqI (pv 0) (pe_gint rfl T.c_GRAND))) (pss_one (ps_ret (pe_callTy call_list_of (by rfl) T.nList PyProof.Rows.boot_list (pa_cons (pe_gseq rfl T.c_JACKS) pa_nil)))) pss_nil)
      (pss_one (ps_ret (pe_op op_cat (pe_callTy call_list_of (by rfl) T.nList PyProof.Rows.boot_list (pa_cons (pe_gseq rfl T.c_JACKS) pa_nil)) (pe_def T.d_cards_of_suit G_cards_of_suit hr_cards_of_suit rfl (pa_cons (pv 0) (pa_cons (pe_gseq rfl T.c_RANKS) pa_nil)))))))), ?_⟩
    refine ⟨_, rfl, _, _, rfl, rfl, _, rfl, itD (fun h5 => ?_) (fun h5 => ?_)⟩
    · refine ⟨(by show 0 ≤ sizeLine; decide), fun q fq => k q _ ?_ fq (Same.upd fq)⟩
      unfold Tc.mTrumps
      rw [if_pos h5]
      exact upd_same
    refine ⟨_, rfl, _, _, rfl, rfl, _, rfl, itD (fun h4 => ?_) (fun h4 => ?_)⟩
    · intro a ha
      refine ⟨a, _, rfl, .inr (ha _), fun q fq => k q _ ?_ fq (Same.upd fq)⟩
      unfold Tc.mTrumps
      rw [if_neg h5, if_pos h4]
      exact upd_same
    · intro a ha
      refine ⟨a, _, rfl, .inr (ha _), fun q fq => ?_⟩
      refine ⟨_, rfl, fun b hb => ⟨d, b, _, rfl, hb, by decide, fun q2 H2 h2 f2 s2 => ?_⟩⟩
      refine ⟨q, q2, _, _, rfl, rfl, s2 _ _ upd_same, h2, (by show 4 + _ ≤ sizeLine; rw [List.length_map]; show 4 + 7 ≤ sizeLine; decide), fun q3 f3 => k q3 _ ?_ ((Same.upd fq).trans s2 |>.free f3) (((Same.upd fq).trans s2).trans (Same.upd f3))⟩
      unfold Tc.mTrumps
      rw [if_neg h5, if_neg h4, upd_same]
      simp [Tc.jacks]
      rfl
theorem ok_followers (T : Txt K mg) : FnOk P w K mg base CX0 3 T.d_followers.f T.d_followers.fd ["declared", "led"] spFollowers := by
  have nd := sc_followers.nd
  have G_trumps : FnOk P w K mg base CX0 2 _ _ _ _ := ok_trumps T
  have G_cards_of_suit : FnOk P w K mg base CX0 1 _ _ _ _ := ok_cards_of_suit T
  refine T.d_followers.fn.ok sc_followers (fun vs H Q E h => ?_) (fun cdv A outer s H vs Q E hr h => ?_)
  · obtain ⟨d, led, rfl, _⟩ := h
    rfl
  · obtain ⟨d, led, rfl, k⟩ := h
    have hr_trumps := hr
    have hr_cards_of_suit := hr.mono (show 1 ≤ 2 by decide)
    refine ⟨_, (pss_cons (ps_if (pt_cmpR op_in_seq (pv 1) (pe_def T.d_trumps G_trumps hr_trumps rfl (pa_cons (pv 0) pa_nil)) rfl) (pss_one (ps_ret (pe_def T.d_trumps G_trumps hr_trumps rfl (pa_cons (pv 0) pa_nil)))) pss_nil)
      (pss_cons (ps_set (i := 2) nd rfl (Or.inl rfl) (pe_ifExp (pt_cmp (pc_eqI (pv 0) (pe_gint rfl T.c_NULL))) (pe_gseq rfl T.c_RANKS_IN_NULL) (pe_gseq rfl T.c_RANKS)))
      (pss_one (ps_ret (pe_def T.d_cards_of_suit G_cards_of_suit hr_cards_of_suit rfl (pa_cons (pe_op op_fdiv (pv 1) (pe_gint rfl T.c_RANKS_OF_A_SUIT)) (pa_cons (pv 2) pa_nil))))))), ?_⟩
    refine ⟨_, rfl, _, rfl, d, rfl, fun q H1 h1 f1 s1 => ⟨q, _, rfl, .inl (SqL.of h1), rfl, flat_ints _, _, rfl, ?_⟩⟩
    show if (inV (V.int led) ((Tc.mTrumps d).map V.int)) = true then _ else _
    rw [inV_ints]
    refine itD (fun hm => ?_) (fun hm => ?_)
    · refine ⟨_, rfl, d, rfl, fun q2 H2 h2 f2 s2 => k q2 H2 ?_ (s1.free f2) (s1.trans s2)⟩
      unfold Tc.mFollowers
      rw [if_pos hm]
      exact h2
    · refine ⟨_, rfl, _, _, rfl, rfl, _, rfl, itD (fun h5 => ?_) (fun h5 => ?_)⟩
      · intro a ha
        refine ⟨_, rfl, _, _, rfl, rfl, ⟨by decide, by decide⟩, _, rfl, _, a, _, rfl, ha, by decide, fun q2 H2 h2 f2 s2 => k q2 H2 ?_ (s1.free f2) (s1.trans s2)⟩
        unfold Tc.mFollowers
        rw [if_neg hm, if_pos h5]
        exact h2
      · intro a ha
        refine ⟨_, rfl, _, _, rfl, rfl, ⟨by decide, by decide⟩, _, rfl, _, a, _, rfl, ha, by decide, fun q2 H2 h2 f2 s2 => k q2 H2 ?_ (s1.free f2) (s1.trans s2)⟩
        unfold Tc.mFollowers
        rw [if_neg hm, if_neg h5]
        exact h2
theorem ok_playable (T : Txt K mg) : FnOk P w K mg base CX0 1 T.d_playable.f T.d_playable.fd ["hand", "following"] spPlayable := by
  have nd := sc_playable.nd
  refine T.d_playable.fn.ok sc_playable (fun vs H Q E h => ?_) (fun cdv A outer s H vs Q E hr h => ?_)
  · obtain ⟨a, f, rfl, _⟩ := h
    rfl
  · obtain ⟨a, f, rfl, k⟩ := h
    refine ⟨_, (pss_cons (ps_if (pt_cmp (pc_eqI (pe_op op_and (pv 0) (pv 1)) pe_int)) (pss_one (ps_ret (pv 0))) pss_nil)
      (pss_one (ps_ret (pe_op op_and (pv 0) (pv 1))))), ?_⟩
    unfold Tc.mPlayable at k
    refine ⟨_, rfl, _, rfl, _, _, rfl, rfl, _, _, rfl, rfl, _, rfl, itD (fun h0 => ?_) (fun h0 => ?_)⟩
    · rw [band] at h0
      rw [if_pos (by omega)] at k
      exact ⟨_, rfl, k⟩
    · rw [band] at h0
      rw [if_neg (by omega)] at k
      refine ⟨_, rfl, _, rfl, _, _, rfl, rfl, ?_⟩
      dsimp only
      rw [band]
      exact k
theorem foll_small {d led : Nat} (hd : d < 6) (hl : led < 32) : ∀ c, c ∈ Tc.mFollowers (d : Nat) (led : Nat) → 0 ≤ c ∧ c ≤ 1000 := fun c hc => by
  have := of_decide_eq_true (List.all_eq_true.mp (Tc.all6 (Tc.all6 Tc.foll_in hd) hl) c (List.mem_append_right _ hc))
  omega
theorem ok_playable_in_trick (T : Txt K mg) : FnOk P w K mg base CX0 4 T.d_playable_in_trick.f T.d_playable_in_trick.fd ["declared", "hand", "trick"] (spPIT K) := by
  have nd := sc_playable_in_trick.nd
  have G_followers : FnOk P w K mg base CX0 3 _ _ _ _ := ok_followers T
  have G_set_of : FnOk P w K mg base CX0 1 _ _ _ _ := ok_set_of T
  have G_playable : FnOk P w K mg base CX0 1 _ _ _ _ := ok_playable T
  refine T.d_playable_in_trick.fn.ok sc_playable_in_trick (fun vs H Q E h => ?_) (fun cdv A outer s H vs Q E hr h => ?_)
  · obtain ⟨d, a, r, ts, rfl, _⟩ := h
    rfl
  · obtain ⟨d, a, r, ts, rfl, hd, hs, ht, k⟩ := h
    have hr_followers := hr
    have hr_set_of := hr.mono (show 1 ≤ 3 by decide)
    have hr_playable := hr.mono (show 1 ≤ 3 by decide)
    refine ⟨_, (pss_cons (ps_if (pt_cmp (pc_eqI (pe_callB call_len_seq (by rfl) T.nLen PySem.boot_len (pa_cons (pv 2) pa_nil)) pe_int)) (pss_one (ps_ret (pv 1))) pss_nil)
      (pss_one (ps_ret (pe_def T.d_playable G_playable hr_playable rfl (pa_cons (pv 1) (pa_cons (pe_def T.d_set_of G_set_of hr_set_of rfl (pa_cons (pe_def T.d_followers G_followers hr_followers rfl (pa_cons (pv 0) (pa_cons (pe_ix ix_list (pv 2) pe_int (fun _ _ => rfl)) pa_nil))) pa_nil)) pa_nil)))))), ?_⟩
    refine ⟨_, rfl, r, _, rfl, .inl hs, _, _, rfl, rfl, _, rfl, itD (fun h0 => ?_) (fun h0 => ?_)⟩
    · rw [ic_len] at h0
      have e : ts = [] := List.length_eq_zero_iff.mp (by omega)
      subst e
      exact ⟨_, rfl, k H fun _ _ z => z⟩
    · rw [ic_len] at h0
      cases ts with
      | nil => simp at h0
      | cons t0 rest =>
        have t32 := ht t0 (List.mem_cons_self ..)
        refine ⟨_, rfl, _, rfl, _, rfl, r, _, _, _, rfl, rfl, hs, atI_in (j := 0) rfl rfl, d, t0, rfl, fun q H1 h1 f1 s1 => ?_⟩
        refine ⟨q, _, rfl, SqL.of h1, foll_small hd t32, ?_⟩
        exact ⟨a, _, rfl, k H1 s1⟩
theorem strFrom_snoc : ∀ (l : List Int) (i : Nat) (c : Int) (s : List Int), Tc.mStrFrom i (l ++ [c]) s = (Tc.mStrFrom i l s).set c.toNat (32 - ((i + l.length : Nat) : Int))
  | [], i, c, s => rfl
  | x :: l, i, c, s => by
    show Tc.mStrFrom (i + 1) (l ++ [c]) _ = (Tc.mStrFrom (i + 1) l _).set _ _
    rw [strFrom_snoc l]
    congr 2
    rw [List.length_cons]
    omega
theorem strFrom_len : ∀ (l : List Int) (i : Nat) (s : List Int), (Tc.mStrFrom i l s).length = s.length
  | [], _, _ => rfl
  | c :: l, i, s => by
    show (Tc.mStrFrom (i + 1) l _).length = _
    rw [strFrom_len l, List.length_set]
theorem ok_strengths (T : Txt K mg) : FnOk P w K mg base CX0 4 T.d_strengths.f T.d_strengths.fd ["declared", "led"] spStr := by
  have nd := sc_strengths.nd
  have G_followers : FnOk P w K mg base CX0 3 _ _ _ _ := ok_followers T
  have G_trumps : FnOk P w K mg base CX0 2 _ _ _ _ := ok_trumps T
  refine T.d_strengths.fn.ok sc_strengths (fun vs H Q E h => ?_) (fun cdv A outer s H vs Q E hr h => ?_)
  · obtain ⟨d, led, rfl, _⟩ := h
    rfl
  · obtain ⟨d, led, rfl, hd, hl, k⟩ := h
    have hr_followers := hr
    have hr_trumps := hr.mono (show 2 ≤ 3 by decide)
    have len32 : (Tc.mTrumps (d : Nat) ++ Tc.mFollowers (d : Nat) (led : Nat)).length ≤ 32 := of_decide_eq_true (Tc.all6 (Tc.all6 Tc.foll_len hd) hl)
    have in32 : ∀ c, c ∈ Tc.mTrumps (d : Nat) ++ Tc.mFollowers (d : Nat) (led : Nat) → 0 ≤ c ∧ c < 32 := fun c hc => of_decide_eq_true (List.all_eq_true.mp (Tc.all6 (Tc.all6 Tc.foll_in hd) hl) c hc)
    have sl : (10000 : Nat) < sizeLine := by decide
    refine ⟨_, (pss_cons (ps_set (i := 2) nd rfl (Or.inl rfl) (pe_op op_rep (pe_lst (pa_cons pe_int pa_nil)) (pe_gint rfl T.c_ALL_CARDS)))
      (pss_cons (ps_for PassesOwn.never rfl (pi_enum rfl T.nEnumerate (pa_cons (pe_op op_cat (pe_def T.d_trumps G_trumps hr_trumps rfl (pa_cons (pv 0) pa_nil)) (pe_def T.d_followers G_followers hr_followers rfl (pa_cons (pv 0) (pa_cons (pv 1) pa_nil)))) pa_nil)) (pg_tup rfl (pgs_cons (pg_name (i := 3) nd rfl (Or.inl rfl)) (pgs_cons (pg_name (i := 4) nd rfl (Or.inl rfl)) pgs_nil))) (pss_one (ps_asg (pe_op op_sub (pe_gint rfl T.c_ALL_CARDS) (pv 3)) (pg_sub (pv 2) (pv 4) set_list))))
      (pss_one (ps_ret (pv 2))))), ?_⟩
    refine ⟨(by show 1 ≤ sizeLine; decide), fun z fz => ?_⟩
    refine ⟨z, 32, _, rfl, rfl, upd_same, by decide, by decide, (by show 1 * 32 ≤ sizeLine; decide), fun g fg => ?_⟩
    refine ⟨_, rfl, _, rfl, fun q H1 h1 f1 s1 => ?_⟩
    refine ⟨_, rfl, _, rfl, _, _, rfl, fun q2 H2 h2 f2 s2 => ?_⟩
    refine ⟨q, q2, _, _, rfl, rfl, s2 _ _ h1, h2, (by rw [List.length_map, List.length_map]; rw [List.length_append] at len32; omega), fun q3 f3 => ?_⟩
    have s0 : Same H (upd (upd H z (.lst [V.int 0])) g (.lst (List.replicate 32 [V.int 0]).flatten)) := (Same.upd fz).trans (Same.upd fg)
    have s3 := (s1.trans s2).trans (Same.upd (o := .lst ((Tc.mTrumps (d : Nat)).map V.int ++ (Tc.mFollowers (d : Nat) (led : Nat)).map V.int)) f3)
    have hg : upd H2 q3 (.lst ((Tc.mTrumps (d : Nat)).map V.int ++ (Tc.mFollowers (d : Nat) (led : Nat)).map V.int)) g = some (.lst (List.replicate 32 [V.int 0]).flatten) := s3 _ _ upd_same
    have gq : g ≠ q3 := ne_of_none ((s1.trans s2) _ _ upd_same) f3
    refine ⟨q3, _, rfl, SqL.of upd_same, for_enum (K := K) (a := q3) (xs := (Tc.mTrumps (d : Nat)).map V.int ++ (Tc.mFollowers (d : Nat) (led : Nat)).map V.int)
      (fun i σ H4 => ∃ (v3 v4 : Option V), σ = [some (.int (d : Int)), some (.int (led : Int)), some (.ref g), v3, v4] ∧ H4 q3 = some (.lst ((Tc.mTrumps (d : Nat)).map V.int ++ (Tc.mFollowers (d : Nat) (led : Nat)).map V.int)) ∧
        H4 g = some (.lst ((Tc.mStrFrom 0 ((Tc.mTrumps (d : Nat) ++ Tc.mFollowers (d : Nat) (led : Nat)).take i) (List.replicate 32 0)).map V.int)) ∧ Same H H4)
      ⟨none, none, rfl, upd_same, ?_, s0.trans s3⟩ (fun i σ H4 _ ⟨_, _, _, e, _⟩ => SqL.of e) ?_ ?_⟩
    · rw [hg]
      rfl
    · rintro i y σ H4 Tu hi ⟨v3, v4, rfl, hq, hgg, sm⟩ fT
      rw [← List.map_append] at hi hq
      obtain ⟨c, hc, rfl⟩ := ints_at hi
      obtain ⟨c0, c32⟩ := in32 c (List.mem_of_getElem? hc)
      obtain ⟨n, rfl⟩ : ∃ n : Nat, c = (n : Int) := ⟨c.toNat, by omega⟩
      have gT : g ≠ Tu := ne_of_none hgg fT
      have qT : q3 ≠ Tu := ne_of_none hq fT
      refine ⟨Tu, _, rfl, SqT.of upd_same, rfl, _, _, rfl, _, _, rfl, rfl, ?_⟩
      refine ⟨_, rfl, _, _, rfl, rfl, _, rfl, _, rfl, g, _, _, n, rfl, rfl, by rw [upd_ne gT]; exact hgg, ixN_nat (by rw [List.length_map, strFrom_len, List.length_replicate]; omega), ?_⟩
      refine ⟨_, _, rfl, ?_, ?_, ?_⟩
      · rw [upd_ne gq.symm, upd_ne qT, ← List.map_append]
        exact hq
      · rw [upd_same, List.take_add_one, hc]
        show some (HO.lst _) = some (HO.lst ((Tc.mStrFrom 0 (_ ++ [(n : Int)]) _).map V.int))
        rw [strFrom_snoc, List.map_set]
        have hlen : ((Tc.mTrumps (d : Nat) ++ Tc.mFollowers (d : Nat) (led : Nat)).take i).length = i := by
          rw [List.length_take]
          have := (List.getElem?_eq_some_iff.mp hc).1
          omega
        rw [hlen, Nat.zero_add, Int.toNat_natCast]
      · intro b o e
        have e4 := sm b o e
        have bg : b ≠ g := fun z2 => by rw [z2, (Same.upd fz).free fg] at e; cases e
        rw [upd_ne bg, upd_ne (ne_of_none e4 fT)]
        exact e4
    · rintro σ H4 ⟨v3, v4, rfl, hq, hgg, sm⟩
      refine ⟨_, rfl, k g H4 ?_ ?_ sm⟩
      · rw [hgg, List.length_append, List.length_map, List.length_map, ← List.length_append, List.take_length]
        rfl
      · exact (Same.upd fz).free fg
theorem ok_place_that_takes (T : Txt K mg) : FnOk P w K mg base CX0 1 T.d_place_that_takes.f T.d_place_that_takes.fd ["strong", "trick"] (spPlace K) := by
  have nd := sc_place_that_takes.nd
  refine T.d_place_that_takes.fn.ok sc_place_that_takes (fun vs H Q E h => ?_) (fun cdv A outer s H vs Q E hr h => ?_)
  · obtain ⟨r, t, ss, ts, rfl, _⟩ := h
    rfl
  · obtain ⟨r, t, ss, ts, rfl, hs, ht, hne, hz, hlt, k⟩ := h
    have sl : (10000 : Nat) < sizeLine := by decide
    refine ⟨_, (pss_cons (ps_setLc (i := 2) (own := [("card", 3)]) rfl nd rfl rfl rfl (pi_list (pv 1)) (blk_of (N := ["strong", "trick", "shown", "card"]) (sc := defScope s_place_that_takes) rfl rfl ⟨rfl, by decide +kernel, by decide +kernel, by decide +kernel, by decide +kernel⟩) (fun _ _ _ _ _ => pg_name (i := 3) nd rfl (Or.inl rfl)) (fun _ _ _ _ _ => pts_nil) (by intro _ _ _ _ _; exact (pe_ix (ix_listB (K := K) rfl) (pv 0) (pv 3) (fun _ _ => rfl))))
      (pss_one (ps_ret (pe_bm PySem.F.plainAttrs_list PySem.F.slot_list_index PySem.F.type_list_index mt_index (pv 2) (pa_cons (pe_callB (cr_max rfl) (by rfl) T.nMax PyProof.Rows.boot_max (pa_cons (pv 2) pa_nil)) pa_nil))))), ?_⟩
    refine ⟨_, rfl, t, rfl, ⟨_, ht⟩, fun D fD => lc_list (K := K) (a := t) (xs := (ic ts).map V.int) (fun i H2 => H2 = upd H D (.lst ((((ic ts).take i).map fun (c : Int) => ss.getD c.toNat 0).map V.int))) rfl (fun i H2 _ e => by rw [e]; exact (Same.upd fD).seq ht) ?_ ?_⟩
    · rintro i y H2 hi rfl
      obtain ⟨c, hc, rfl⟩ := ints_at hi
      obtain ⟨n, hn, rfl⟩ := ic_mem (List.mem_of_getElem? hc)
      have hl := hlt n hn
      refine ⟨rfl, ?_⟩
      dsimp only [tYes]
      refine iteT ?_
      refine ⟨_, rfl, _, rfl, r, _, _, _, rfl, rfl, (Same.upd fD).seq hs, atI_in (j := n) rfl (by rw [List.getElem?_map, List.getElem?_eq_getElem hl]; rfl), ?_⟩
      refine ⟨_, upd_same, ?_, ?_⟩
      · rw [List.length_map, List.length_map, List.length_take, ic, List.length_map]; omega
      · rw [upd_upd, List.take_add_one, hc]
        simp [List.getD_eq_getElem?_getD, List.getElem?_eq_getElem hl]
    · rintro H2 rfl
      have e : (ic ts).take ((ic ts).map V.int).length = ic ts := by rw [List.length_map, List.take_length]
      rw [e]
      have hD : upd H D (.lst (((ic ts).map fun (c : Int) => ss.getD c.toNat 0).map V.int)) D = some (.lst (((ic ts).map fun (c : Int) => ss.getD c.toNat 0).map V.int)) := upd_same
      refine ⟨_, rfl, .inl ⟨rfl, _, SqL.of hD⟩, _, rfl, D, _, rfl, SqL.of hD, ?_, fun m hm hmax => ?_⟩
      · rw [List.length_map, ic, List.length_map]
        exact List.length_pos_iff.mpr hne
      · obtain ⟨j, hj, hfirst⟩ := first_of hm
        refine ⟨D, _, _, j, _, rfl, rfl, SqL.of hD, rfl, flat_ints _, by rw [List.getElem?_map, hj]; rfl, by show (m == m) = true; simp, ?_, k j _ ⟨m, hj, hmax, hfirst⟩ (Same.upd fD)⟩
        intro i z hi hz2
        obtain ⟨y, hy, rfl⟩ := ints_at hz2
        have := hfirst i y hi hy
        show (y == m) = false
        simpa using this
end
end Prog
namespace Prog
open PySem L2
/-! ### the play -/
theorem GameAt.same {C : Addr} {H H' : Hp} {a l t : Addr} {en : V} {p : Tc.PG} (G : GameAt C H a l t en p) (s : Same H H') : GameAt C H' a l t en p := by
  obtain ⟨⟨dx, h1⟩, h2⟩ := G
  exact ⟨⟨dx, s _ _ h1⟩, s _ _ h2⟩
theorem hv_ic {p : Tc.PG} : hv p = (ic p.hands).map V.int := by unfold hv ic; rw [List.map_map]; rfl
/-- a call that only reads the game -/
def spRd (C : Addr) (pre : Tc.PG → Prop) (f : Tc.PG → V) : Sp := fun vs H Q _ => ∃ (a l t : Addr) (en : V) (p : Tc.PG), vs = [.ref a] ∧ GameAt C H a l t en p ∧ H t = some (.lst (p.trick.map V.int)) ∧ pre p ∧ ∀ H', Same H H' → Q (f p) H'
/-- .. and answers a new list -/
def spLs (C : Addr) (pre : Tc.PG → Prop) (f : Tc.PG → List Int) : Sp := fun vs H Q _ => ∃ (a l t : Addr) (en : V) (p : Tc.PG), vs = [.ref a] ∧ GameAt C H a l t en p ∧ H t = some (.lst (p.trick.map V.int)) ∧ pre p ∧
  ∀ q H', H' q = some (.lst ((f p).map V.int)) → H q = none → Same H H' → Q (.ref q) H'
/-- what is known of a game that is played -/
structure PlOk (p : Tc.PG) : Prop where
  three : p.hands.length = 3
  small : ∀ m, m ∈ p.hands → m < 2 ^ 32
  game : ∃ d : Nat, d < 6 ∧ p.declared = some (d : Int)
  trick : ∃ ts : List Nat, p.trick = ic ts ∧ (∀ c ∈ ts, c < 32) ∧ ts.length ≤ 3
def Small (p : Tc.PG) : Prop := p.taken < 2 ^ 32 ∧ p.away < 2 ^ 32
theorem PlOk.get {p : Tc.PG} (po : PlOk p) {j : Nat} (h : j < 3) : (hv p)[j]? = some (V.int ((p.hands.getD j 0 : Nat) : Int)) ∧ p.hands.getD j 0 < 2 ^ 32 := by
  have hj : j < p.hands.length := by rw [po.three]; exact h
  have e : p.hands[j]? = some (p.hands.getD j 0) := by rw [List.getD_eq_getElem?_getD, List.getElem?_eq_getElem hj]; rfl
  refine ⟨?_, po.small _ (List.mem_of_getElem? e)⟩
  unfold hv
  rw [List.getElem?_map, e]
  rfl
theorem turn_lt3 (p : Tc.PG) : Tc.mTurn p < 3 ∧ (p.leader + p.trick.length) % 3 = (Tc.mTurn p : Int) := by
  unfold Tc.mTurn
  omega
theorem now_lt {p : Tc.PG} (po : PlOk p) : Tc.mNow p < 2 ^ 32 := by
  have h := (po.get (turn_lt3 p).1).2
  unfold Tc.mNow
  generalize p.hands.getD (Tc.mTurn p) 0 = m at h
  unfold Tc.mPlayableIn
  split
  · exact h
  · unfold Tc.mPlayable
    split
    · exact h
    · exact Nat.lt_of_le_of_lt Nat.and_le_left h
section
variable {P : Program} {w : World} {K : PySem.W.Frag} {mg : Str → Option Value} {base : Heap}
theorem ok_whose_turn (T : Txt K mg) : FnOk P w K mg base CX0 1 T.d_whose_turn.f T.d_whose_turn.fd ["game"] (spRd T.k_Game.C (fun _ => True) fun p => .int (Tc.mTurn p : Nat)) := by
  have nd := sc_whose_turn.nd
  refine T.d_whose_turn.fn.ok sc_whose_turn (fun vs H Q E h => ?_) (fun cdv A outer s H vs Q E hr h => ?_)
  · obtain ⟨a, l, t, en, p, rfl, _⟩ := h
    rfl
  · obtain ⟨a, l, t, en, p, rfl, G, ht, _, k⟩ := h
    try dsimp only at k
    obtain ⟨⟨dx, h1⟩, hl⟩ := G
    refine ⟨_, (pss_one (ps_ret (pe_op op_mod (pe_op op_add (pe_fld (pv 0) rfl) (pe_callB call_len_seq (by rfl) T.nLen PySem.boot_len (pa_cons (pe_fld (pv 0) rfl) pa_nil))) (pe_gint rfl T.c_PLAYERS)))), ?_⟩
    refine ⟨_, rfl, rd_fld (i := 11) h1 T.k_Game.cl (T.k_Game.no 11 _ rfl) nd_Game rfl rfl ⟨_, rfl, rd_fld (i := 12) h1 T.k_Game.cl (T.k_Game.no 12 _ rfl) nd_Game rfl rfl ⟨t, _, rfl, .inl (SqL.of ht), _, _, rfl, rfl, _, _, rfl, rfl, (by show (0 : Int) < 3; decide), ?_⟩⟩⟩
    have e := (turn_lt3 p).2
    dsimp only
    rw [List.length_map, e]
    exact k H fun _ _ z => z
theorem ok_playable_now (T : Txt K mg) : FnOk P w K mg base CX0 5 T.d_playable_now.f T.d_playable_now.fd ["game"] (spRd T.k_Game.C PlOk fun p => .int (Tc.mNow p : Nat)) := by
  have nd := sc_playable_now.nd
  have G_whose_turn : FnOk P w K mg base CX0 1 _ _ _ _ := ok_whose_turn T
  have G_playable_in_trick : FnOk P w K mg base CX0 4 _ _ _ _ := ok_playable_in_trick T
  refine T.d_playable_now.fn.ok sc_playable_now (fun vs H Q E h => ?_) (fun cdv A outer s H vs Q E hr h => ?_)
  · obtain ⟨a, l, t, en, p, rfl, _⟩ := h
    rfl
  · obtain ⟨a, l, t, en, p, rfl, G, ht, po, k⟩ := h
    try dsimp only at k
    have G0 := G
    obtain ⟨⟨dx, h1⟩, hl⟩ := G
    have hr_whose_turn := hr.mono (show 1 ≤ 4 by decide)
    have hr_playable_in_trick := hr
    obtain ⟨d, d6, ed⟩ := po.game
    obtain ⟨ts, et, lt, _⟩ := po.trick
    refine ⟨_, (pss_one (ps_ret (pe_def T.d_playable_in_trick G_playable_in_trick hr_playable_in_trick rfl (pa_cons (pe_fld (pv 0) rfl) (pa_cons (pe_ix ix_list (pe_fld (pv 0) rfl) (pe_def T.d_whose_turn G_whose_turn hr_whose_turn rfl (pa_cons (pv 0) pa_nil)) (fun _ _ => rfl)) (pa_cons (pe_fld (pv 0) rfl) pa_nil)))))), ?_⟩
    refine ⟨_, rfl, rd_fld (i := 9) h1 T.k_Game.cl (T.k_Game.no 9 _ rfl) nd_Game rfl rfl ⟨_, rfl, rd_fld (i := 0) h1 T.k_Game.cl (T.k_Game.no 0 _ rfl) nd_Game rfl rfl ⟨_, rfl, a, l, t, en, p, rfl, G0, ht, trivial, fun H1 s1 => ?_⟩⟩⟩
    refine ⟨l, _, _, _, rfl, rfl, SqL.of (s1 _ _ hl), atI_in (j := Tc.mTurn p) rfl (po.get (turn_lt3 p).1).1, _, rfl, rd_fld (i := 12) (s1 _ _ h1) T.k_Game.cl (T.k_Game.no 12 _ rfl) nd_Game rfl rfl ?_⟩
    refine ⟨d, _, t, ts, by rw [ed]; rfl, d6, SqL.of (by rw [s1 _ _ ht, et]), lt, fun H2 s2 => ?_⟩
    have e : Tc.mNow p = Tc.mPlayableIn (d : Nat) (p.hands.getD (Tc.mTurn p) 0) (ic ts) := by unfold Tc.mNow; rw [ed, et]; rfl
    rw [e] at k
    exact k H2 (s1.trans s2)
theorem ok_legal (T : Txt K mg) : FnOk P w K mg base CX0 6 T.d_legal.f T.d_legal.fd ["game"] (spLs T.k_Game.C (fun p => p.phase = 6 → PlOk p) Tc.mLegal) := by
  have nd := sc_legal.nd
  have G_playable_now : FnOk P w K mg base CX0 5 _ _ _ _ := ok_playable_now T
  have G_counted : FnOk P w K mg base CX0 2 _ _ _ _ := ok_counted T
  refine T.d_legal.fn.ok sc_legal (fun vs H Q E h => ?_) (fun cdv A outer s H vs Q E hr h => ?_)
  · obtain ⟨a, l, t, en, p, rfl, _⟩ := h
    rfl
  · obtain ⟨a, l, t, en, p, rfl, G, ht, po, k⟩ := h
    try dsimp only at k
    have G0 := G
    obtain ⟨⟨dx, h1⟩, hl⟩ := G
    have hr_playable_now := hr
    have hr_counted := hr.mono (show 2 ≤ 5 by decide)
    refine ⟨_, (pss_cons (ps_if (pt_cmp (pc_neI (pe_fld (pv 0) rfl) (pe_gint rfl T.c_PLAYING))) (pss_one (ps_ret (pe_lst (pa_cons (pe_gint rfl T.c_REFUSED) pa_nil)))) pss_nil)
      (pss_one (ps_ret (pe_def T.d_counted G_counted hr_counted rfl (pa_cons (pe_def T.d_playable_now G_playable_now hr_playable_now rfl (pa_cons (pv 0) pa_nil)) pa_nil))))), ?_⟩
    unfold Tc.mLegal at k
    refine ⟨_, rfl, rd_fld (i := 2) h1 T.k_Game.cl (T.k_Game.no 2 _ rfl) nd_Game rfl rfl ⟨_, _, rfl, rfl, _, rfl, itN (fun hc => ?_) (fun hc => ?_)⟩⟩
    · rw [if_pos hc] at k
      exact ⟨(by show 1 ≤ sizeLine; decide), fun q fq => k q _ upd_same fq (Same.upd fq)⟩
    · rw [if_neg (fun z => z hc)] at k
      refine ⟨_, rfl, a, l, t, en, p, rfl, G0, ht, po hc, fun H1 s1 => ?_⟩
      exact ⟨_, rfl, now_lt (po hc), fun q H2 h2 f2 s2 => k q H2 h2 (s1.free f2) (s1.trans s2)⟩
theorem ok_points_so_far (T : Txt K mg) : FnOk P w K mg base CX0 2 T.d_points_so_far.f T.d_points_so_far.fd ["game"] (spRd T.k_Game.C Small fun p => .int (Tc.mPoints p : Nat)) := by
  have nd := sc_points_so_far.nd
  have G_cards_in : FnOk P w K mg base CX0 1 _ _ _ _ := ok_cards_in T
  have G_points_of : FnOk P w K mg base CX0 1 _ _ _ _ := ok_points_of T
  refine T.d_points_so_far.fn.ok sc_points_so_far (fun vs H Q E h => ?_) (fun cdv A outer s H vs Q E hr h => ?_)
  · obtain ⟨a, l, t, en, p, rfl, _⟩ := h
    rfl
  · obtain ⟨a, l, t, en, p, rfl, G, ht, po, k⟩ := h
    try dsimp only at k
    obtain ⟨⟨dx, h1⟩, hl⟩ := G
    have hr_cards_in := hr
    have hr_points_of := hr
    refine ⟨_, (pss_one (ps_ret (pe_def T.d_points_of G_points_of hr_points_of rfl (pa_cons (pe_def T.d_cards_in G_cards_in hr_cards_in rfl (pa_cons (pe_op op_or (pe_fld (pv 0) rfl) (pe_fld (pv 0) rfl)) pa_nil)) pa_nil)))), ?_⟩
    refine ⟨_, rfl, rd_fld (i := 13) h1 T.k_Game.cl (T.k_Game.no 13 _ rfl) nd_Game rfl rfl ⟨_, rfl, rd_fld (i := 1) h1 T.k_Game.cl (T.k_Game.no 1 _ rfl) nd_Game rfl rfl ⟨_, _, rfl, rfl, ?_⟩⟩⟩
    dsimp only
    rw [bor]
    refine ⟨_, rfl, Nat.or_lt_two_pow po.1 po.2, fun q H1 h1 f1 s1 => ?_⟩
    exact ⟨q, _, rfl, SqL.of h1, Nat.le_trans (Tc.mCards_len_le _) (by decide), fun H2 s2 => k H2 (s1.trans s2)⟩
theorem hands_zero (hs : List Nat) : hs = [0, 0, 0] ↔ ic hs = [0, 0, 0] := by
  constructor
  · intro z; rw [z]; rfl
  · intro z
    match hs, z with
    | [x, y, u], z =>
      simp [ic] at z
      obtain ⟨rfl, rfl, rfl⟩ := z
      rfl
    | [], z => simp [ic] at z
    | [_], z => simp [ic] at z
    | [_, _], z => simp [ic] at z
    | _ :: _ :: _ :: _ :: _, z => simp [ic] at z
theorem ok_is_played_out (T : Txt K mg) : FnOk P w K mg base CX0 1 T.d_is_played_out.f T.d_is_played_out.fd ["game"] (spRd T.k_Game.C (fun p => ∃ d : Int, p.declared = some d) fun p => .bl (decide (Tc.mOut p))) := by
  have nd := sc_is_played_out.nd
  refine T.d_is_played_out.fn.ok sc_is_played_out (fun vs H Q E h => ?_) (fun cdv A outer s H vs Q E hr h => ?_)
  · obtain ⟨a, l, t, en, p, rfl, _⟩ := h
    rfl
  · obtain ⟨a, l, t, en, p, rfl, G, ht, ⟨d, ed⟩, k⟩ := h
    try dsimp only at k
    obtain ⟨⟨dx, h1⟩, hl⟩ := G
    refine ⟨_, (pss_cons (ps_if (PW.pt (pw_and (pt_cmp (pc_eqI (pe_fld (pv 0) rfl) (pe_gint rfl T.c_NULL))) (pw_and1 (pt_cmp (pc_gt (pe_fld (pv 0) rfl) pe_int))))) (pss_one (ps_ret pe_bl)) pss_nil)
      (pss_one (ps_ret (pe_cmpR (op_eqD hr.units) (pe_fld (pv 0) rfl) (pe_lst (pa_cons pe_int (pa_cons pe_int (pa_cons pe_int pa_nil)))) (nomark _))))), ?_⟩
    have fin : ¬ (p.declared = some 5 ∧ p.tricks > 0) → ∀ q, H q = none → Q (.bl (decide (ic p.hands = [0, 0, 0]))) (upd H q (.lst [V.int 0, V.int 0, V.int 0])) := fun hn q fq => by
      have e : decide (Tc.mOut p) = decide (ic p.hands = [0, 0, 0]) := by
        congr 1
        unfold Tc.mOut
        rw [← hands_zero]
        simp only [hn, false_or]
      rw [← e]
      exact k _ (Same.upd fq)
    have last : ¬ (p.declared = some 5 ∧ p.tricks > 0) → ∀ q, H q = none → ∃ x y, Dp K (upd H q (.lst [V.int 0, V.int 0, V.int 0])) (.ref l) x ∧ Dp K (upd H q (.lst [V.int 0, V.int 0, V.int 0])) (.ref q) y ∧ SeqAt.shaped x = true ∧ SeqAt.shaped y = true ∧ Q (.bl (PyData.eqv x y)) (upd H q (.lst [V.int 0, V.int 0, V.int 0])) := fun hn q fq => by
      have lq : l ≠ q := ne_of_none hl fq
      refine ⟨_, _, dp_ints (ns := ic p.hands) (SqL.of (by rw [upd_ne lq, hl, hv_ic])), dp_ints (ns := [0, 0, 0]) (SqL.of upd_same), shaped_ints _, shaped_ints _, ?_⟩
      rw [eqv_ints]
      exact fin hn q fq
    have ev : optV p.declared = V.int d := by rw [ed]; rfl
    refine ⟨_, rfl, rd_fld (i := 9) h1 T.k_Game.cl (T.k_Game.no 9 _ rfl) nd_Game rfl rfl ?_⟩
    rw [ev]
    refine ⟨_, _, rfl, rfl, _, rfl, itD (fun h5 => ?_) (fun h5 => ?_)⟩
    · refine ⟨_, rfl, rd_fld (i := 14) h1 T.k_Game.cl (T.k_Game.no 14 _ rfl) nd_Game rfl rfl ⟨_, _, rfl, rfl, _, rfl, itD (fun h0 => ?_) (fun h0 => ?_)⟩⟩
      · have e : decide (Tc.mOut p) = true := decide_eq_true (.inl ⟨by rw [ed, h5], h0⟩)
        rw [e] at k
        exact k H fun _ _ z => z
      · exact ⟨_, rfl, rd_fld (i := 0) h1 T.k_Game.cl (T.k_Game.no 0 _ rfl) nd_Game rfl rfl ⟨(by show 3 ≤ sizeLine; decide), last fun z => h0 z.2⟩⟩
    · refine iteF ?_
      exact ⟨_, rfl, rd_fld (i := 0) h1 T.k_Game.cl (T.k_Game.no 0 _ rfl) nd_Game rfl rfl ⟨(by show 3 ≤ sizeLine; decide), last fun z => h5 (by rw [ed] at z; exact Option.some.inj z.1)⟩⟩
/-- the end of a trick -/
def spEndTrick (C : Addr) : Sp := fun vs H Q _ => ∃ (a l t : Addr) (en : V) (p : Tc.PG), vs = [.ref a] ∧ GameAt C H a l t en p ∧ H t = some (.lst (p.trick.map V.int)) ∧ PlOk p ∧ p.trick ≠ [] ∧
  ∀ (j : Nat) (t' : Addr) (H' : Hp), Tc.FirstMax (Tc.mShown p) j → GameAt C H' a l t' en (Tc.mEnd p j) → H' t' = some (.lst []) → H t' = none → (∀ b o, H b = some o → b ≠ a → H' b = some o) → Q .non H'
theorem ok_end_trick (T : Txt K mg) : FnOk P w K mg base CX0 5 T.d_end_trick.f T.d_end_trick.fd ["game"] (spEndTrick T.k_Game.C) := by
  have nd := sc_end_trick.nd
  have G_place_that_takes : FnOk P w K mg base CX0 1 _ _ _ _ := ok_place_that_takes T
  have G_strengths : FnOk P w K mg base CX0 4 _ _ _ _ := ok_strengths T
  have G_set_of : FnOk P w K mg base CX0 1 _ _ _ _ := ok_set_of T
  have G_is_played_out : FnOk P w K mg base CX0 1 _ _ _ _ := ok_is_played_out T
  refine T.d_end_trick.fn.ok sc_end_trick (fun vs H Q E h => ?_) (fun cdv A outer s H vs Q E hr h => ?_)
  · obtain ⟨a, l, t, en, p, rfl, _⟩ := h
    rfl
  · obtain ⟨a, l, t, en, p, rfl, G, ht, po, tne, k⟩ := h
    try dsimp only at k
    have ne := G.ne
    obtain ⟨⟨dx, h1⟩, hl⟩ := G
    have hr_strengths := hr
    have hr_place_that_takes := hr.mono (show 1 ≤ 4 by decide)
    have hr_set_of := hr.mono (show 1 ≤ 4 by decide)
    have hr_is_played_out := hr.mono (show 1 ≤ 4 by decide)
    obtain ⟨d, d6, ed⟩ := po.game
    obtain ⟨ts, et, lt, tl⟩ := po.trick
    have ta : t ≠ a := ne_of ht h1 (by intro z; cases z)
    cases ts with
    | nil => exact absurd et tne
    | cons t0 rest =>
    have ev : optV p.declared = V.int (d : Int) := by rw [ed]; rfl
    have t32 := lt t0 (List.mem_cons_self ..)
    have et' : p.trick.map V.int = (ic (t0 :: rest)).map V.int := by rw [et]
    refine ⟨_, (pss_cons (ps_set (i := 1) nd rfl (Or.inl rfl) (pe_def T.d_place_that_takes G_place_that_takes hr_place_that_takes rfl (pa_cons (pe_def T.d_strengths G_strengths hr_strengths rfl (pa_cons (pe_fld (pv 0) rfl) (pa_cons (pe_ix ix_list (pe_fld (pv 0) rfl) pe_int (fun _ _ => rfl)) pa_nil))) (pa_cons (pe_fld (pv 0) rfl) pa_nil))))
      (pss_cons (ps_fld (pv 0) (pe_op op_mod (pe_op op_add (pe_fld (pv 0) rfl) (pv 1)) (pe_gint rfl T.c_PLAYERS)) rfl)
      (pss_cons (ps_if (pt_cmp (pc_eqI (pe_fld (pv 0) rfl) (pe_fld (pv 0) rfl))) (pss_cons (ps_fld (pv 0) (pe_op op_or (pe_fld (pv 0) rfl) (pe_def T.d_set_of G_set_of hr_set_of rfl (pa_cons (pe_fld (pv 0) rfl) pa_nil))) rfl)
      (pss_one (ps_fldaug (pv 0) pe_int in_add))) pss_nil)
      (pss_cons (ps_fld (pv 0) (pe_lst pa_nil) rfl)
      (pss_one (ps_if (pt_val (pe_def T.d_is_played_out G_is_played_out hr_is_played_out rfl (pa_cons (pv 0) pa_nil))) (pss_one (ps_fld (pv 0) (pe_gint rfl T.c_OVER) rfl)) pss_nil)))))), ?_⟩
    refine ⟨_, rfl, rd_fld (i := 9) h1 T.k_Game.cl (T.k_Game.no 9 _ rfl) nd_Game rfl rfl ?_⟩
    rw [ev]
    refine ⟨_, rfl, rd_fld (i := 12) h1 T.k_Game.cl (T.k_Game.no 12 _ rfl) nd_Game rfl rfl ⟨t, _, _, _, rfl, rfl, SqL.of (ht.trans (congrArg (fun z => some (HO.lst z)) et')), atI_in (j := 0) rfl rfl, d, t0, rfl, d6, t32, fun q H1 hq f1 s1 => ?_⟩⟩
    refine ⟨_, rfl, rd_fld (i := 12) (s1 _ _ h1) T.k_Game.cl (T.k_Game.no 12 _ rfl) nd_Game rfl rfl ?_⟩
    refine ⟨q, t, _, t0 :: rest, rfl, SqL.of hq, SqL.of ((s1 _ _ ht).trans (congrArg (fun z => some (HO.lst z)) et')), by simp, by omega, fun c hc => by rw [Tc.str_len d6 t32]; exact lt c hc, fun j H2 hj s2 => ?_⟩
    have s12 := s1.trans s2
    have h2 := s12 _ _ h1
    have ht2 := s12 _ _ ht
    have hl2 := s12 _ _ hl
    have shown : Tc.FirstMax (Tc.mShown p) j := by
      unfold Tc.mShown
      rw [et, ed]
      exact hj
    -- game.leader = (game.leader + place) % PLAYERS
    refine ⟨_, rfl, rd_fld (i := 11) h2 T.k_Game.cl (T.k_Game.no 11 _ rfl) nd_Game rfl rfl ⟨_, rfl, _, _, rfl, rfl, _, _, rfl, rfl, (by show (0 : Int) < 3; decide), ?_⟩⟩
    refine ⟨_, rfl, st_fld (i := 11) h2 T.k_Game.cl (T.k_Game.no 11 _ rfl) nd_Game rfl rfl (by decide) ?_⟩
    -- if game.leader == game.alone
    refine ⟨_, rfl, rd_fldU (i := 11) T.k_Game.cl (T.k_Game.no 11 _ rfl) nd_Game rfl rfl ⟨_, rfl, rd_fldU (i := 6) T.k_Game.cl (T.k_Game.no 6 _ rfl) nd_Game rfl rfl ⟨_, _, rfl, rfl, _, rfl, itD (fun hm => ?_) (fun hm => ?_)⟩⟩⟩
    · refine ⟨_, rfl, rd_fldU (i := 13) T.k_Game.cl (T.k_Game.no 13 _ rfl) nd_Game rfl rfl ⟨_, rfl, rd_fldU (i := 12) T.k_Game.cl (T.k_Game.no 12 _ rfl) nd_Game rfl rfl ?_⟩⟩
      refine ⟨t, ic (t0 :: rest), rfl, SqL.of (by rw [upd_ne ta, ht2, et']), fun c hc => ?_, _, _, rfl, rfl, ?_⟩
      · obtain ⟨n, hn, rfl⟩ := ic_mem hc
        have := lt n hn
        omega
      dsimp only
      rw [bor]
      refine ⟨_, rfl, st_fldU (i := 13) T.k_Game.cl (T.k_Game.no 13 _ rfl) nd_Game rfl rfl (by decide) ?_⟩
      -- game.tricks += 1
      refine ⟨_, rfl, rd_augU (i := 14) T.k_Game.cl (T.k_Game.no 14 _ rfl) nd_Game rfl rfl ⟨_, _, rfl, rfl, au_fldU (i := 14) nd_Game rfl rfl (by decide) ?_⟩⟩
      have eg : Tc.mGain p j = { p with leader := (p.leader + j) % 3, taken := p.taken ||| Tc.mSetOf (ic (t0 :: rest)), tricks := p.tricks + 1, trick := [] } := (if_pos hm).trans (by rw [et])
      refine ⟨(by show 0 ≤ sizeLine; decide), fun t' ft => ?_⟩
      have at' : a ≠ t' := ne_of_none upd_same ft
      have lt' : l ≠ t' := ne_of_none (show upd H2 a _ l = some _ from by rw [upd_ne ne]; exact hl2) ft
      refine ⟨_, rfl, st_fld (i := 12) (by rw [upd_ne at']; exact upd_same) T.k_Game.cl (T.k_Game.no 12 _ rfl) nd_Game rfl rfl (by decide) ?_⟩
      have out0 : H t' = none := by
        cases q0 : H t' with
        | none => rfl
        | some o0 => rw [upd_ne at'.symm, s12 _ _ q0] at ft; cases ft
      refine ⟨_, rfl, a, l, t', en, Tc.mGain p j, rfl, ⟨⟨dx, by rw [eg]; exact upd_same⟩, by rw [eg, upd_ne ne, upd_ne lt', upd_ne ne]; exact hl2⟩, by rw [eg, upd_ne at'.symm]; exact upd_same, ⟨d, by rw [eg]; exact ed⟩, fun H3 s3 => ⟨_, rfl, ?_⟩⟩
      have kp : ∀ b o, H b = some o → b ≠ a → H3 b = some o := fun b o e nb => by
        have bt : b ≠ t' := fun z => by rw [z, out0] at e; cases e
        refine s3 _ _ ?_
        rw [upd_ne nb, upd_ne bt, upd_ne nb]
        exact s12 _ _ e
      have h3 := s3 a _ upd_same
      have hl3 : H3 l = some (.lst (hv p)) := kp _ _ hl ne
      have ht3 : H3 t' = some (.lst []) := s3 _ _ (by rw [upd_ne at'.symm]; exact upd_same)
      by_cases ho : Tc.mOut (Tc.mGain p j)
      · rw [decide_eq_true ho]
        refine iteT ⟨_, rfl, st_fld (i := 2) h3 T.k_Game.cl (T.k_Game.no 2 _ rfl) nd_Game rfl rfl (by decide) ?_⟩
        have ee : Tc.mEnd p j = { Tc.mGain p j with phase := 7 } := if_pos ho
        refine k j t' _ shown ⟨⟨dx, by rw [ee, eg]; exact upd_same⟩, by rw [ee, eg, upd_ne ne]; exact hl3⟩ (by rw [upd_ne at'.symm]; exact ht3) out0 fun b o e nb => by rw [upd_ne nb]; exact kp b o e nb
      · rw [decide_eq_false ho]
        refine iteF ?_
        have ee : Tc.mEnd p j = Tc.mGain p j := if_neg ho
        exact k j t' _ shown ⟨⟨dx, by rw [ee, eg]; exact h3⟩, by rw [ee, eg]; exact hl3⟩ ht3 out0 kp
    · have eg : Tc.mGain p j = { p with leader := (p.leader + j) % 3, trick := [] } := if_neg hm
      refine ⟨(by show 0 ≤ sizeLine; decide), fun t' ft => ?_⟩
      have at' : a ≠ t' := ne_of_none upd_same ft
      have lt' : l ≠ t' := ne_of_none (show upd H2 a _ l = some _ from by rw [upd_ne ne]; exact hl2) ft
      refine ⟨_, rfl, st_fld (i := 12) (by rw [upd_ne at']; exact upd_same) T.k_Game.cl (T.k_Game.no 12 _ rfl) nd_Game rfl rfl (by decide) ?_⟩
      have out0 : H t' = none := by
        cases q0 : H t' with
        | none => rfl
        | some o0 => rw [upd_ne at'.symm, s12 _ _ q0] at ft; cases ft
      refine ⟨_, rfl, a, l, t', en, Tc.mGain p j, rfl, ⟨⟨dx, by rw [eg]; exact upd_same⟩, by rw [eg, upd_ne ne, upd_ne lt', upd_ne ne]; exact hl2⟩, by rw [eg, upd_ne at'.symm]; exact upd_same, ⟨d, by rw [eg]; exact ed⟩, fun H3 s3 => ⟨_, rfl, ?_⟩⟩
      have kp : ∀ b o, H b = some o → b ≠ a → H3 b = some o := fun b o e nb => by
        have bt : b ≠ t' := fun z => by rw [z, out0] at e; cases e
        refine s3 _ _ ?_
        rw [upd_ne nb, upd_ne bt, upd_ne nb]
        exact s12 _ _ e
      have h3 := s3 a _ upd_same
      have hl3 : H3 l = some (.lst (hv p)) := kp _ _ hl ne
      have ht3 : H3 t' = some (.lst []) := s3 _ _ (by rw [upd_ne at'.symm]; exact upd_same)
      by_cases ho : Tc.mOut (Tc.mGain p j)
      · rw [decide_eq_true ho]
        refine iteT ⟨_, rfl, st_fld (i := 2) h3 T.k_Game.cl (T.k_Game.no 2 _ rfl) nd_Game rfl rfl (by decide) ?_⟩
        have ee : Tc.mEnd p j = { Tc.mGain p j with phase := 7 } := if_pos ho
        refine k j t' _ shown ⟨⟨dx, by rw [ee, eg]; exact upd_same⟩, by rw [ee, eg, upd_ne ne]; exact hl3⟩ (by rw [upd_ne at'.symm]; exact ht3) out0 fun b o e nb => by rw [upd_ne nb]; exact kp b o e nb
      · rw [decide_eq_false ho]
        refine iteF ?_
        have ee : Tc.mEnd p j = Tc.mGain p j := if_neg ho
        exact k j t' _ shown ⟨⟨dx, by rw [ee, eg]; exact h3⟩, by rw [ee, eg]; exact hl3⟩ ht3 out0 kp
/-- a card played -/
def spPlay (C : Addr) : Sp := fun vs H Q _ => ∃ (a l t : Addr) (en : V) (p : Tc.PG) (card : Int), vs = [.ref a, .int card] ∧ GameAt C H a l t en p ∧ H t = some (.lst (p.trick.map V.int)) ∧ l ≠ t ∧ (p.phase = 6 → PlOk p ∧ p.trick.length < 3) ∧
  ((p.phase ≠ 6 ∨ Tc.mHolds (Tc.mNow p) card = false) → ∀ H', Same H H' → Q (.int (-1)) H') ∧
  (p.phase = 6 → Tc.mHolds (Tc.mNow p) card = true → p.trick.length + 1 ≠ 3 → ∀ H', GameAt C H' a l t en (Tc.mPut p card) → H' t = some (.lst ((Tc.mPut p card).trick.map V.int)) → (∀ b o, H b = some o → b ≠ a → b ≠ l → b ≠ t → H' b = some o) → Q (.int p.phase) H') ∧
  (p.phase = 6 → Tc.mHolds (Tc.mNow p) card = true → p.trick.length + 1 = 3 → ∀ (j : Nat) (t' : Addr) H', Tc.FirstMax (Tc.mShown (Tc.mPut p card)) j → GameAt C H' a l t' en (Tc.mEnd (Tc.mPut p card) j) → H' t' = some (.lst []) → H t' = none → (∀ b o, H b = some o → b ≠ a → b ≠ l → b ≠ t → H' b = some o) → Q (.int (Tc.mEnd (Tc.mPut p card) j).phase) H')
theorem put_ok {p : Tc.PG} {card : Int} (po : PlOk p) (hl : p.trick.length < 3) (h0 : 0 ≤ card ∧ card < 32) : PlOk (Tc.mPut p card) ∧ (Tc.mPut p card).trick ≠ [] := by
  obtain ⟨ts, et, lt, _⟩ := po.trick
  have g := (po.get (turn_lt3 p).1).2
  refine ⟨⟨by show (p.hands.set _ _).length = 3; rw [List.length_set]; exact po.three, fun m hm => ?_, po.game, ts ++ [card.toNat], ?_, fun c hc => ?_, ?_⟩, by show p.trick ++ [card] ≠ []; simp⟩
  · rcases List.mem_or_eq_of_mem_set hm with z | z
    · exact po.small m z
    · rw [z]
      refine Nat.xor_lt_two_pow g ?_
      show 0 ||| 2 ^ card.toNat < 2 ^ 32
      rw [Nat.zero_or]
      exact Nat.pow_lt_pow_right (by decide) (by omega)
  · show p.trick ++ [card] = _
    rw [et]
    unfold ic
    simp
    omega
  · rcases List.mem_append.mp hc with z | z
    · exact lt c z
    · simp at z; omega
  · rw [et] at hl
    unfold ic at hl
    rw [List.length_map] at hl
    simp
    omega
theorem ok_play (T : Txt K mg) : FnOk P w K mg base CX0 6 T.d_play.f T.d_play.fd ["game", "card"] (spPlay T.k_Game.C) := by
  have nd := sc_play.nd
  have G_holds : FnOk P w K mg base CX0 1 _ _ _ _ := ok_holds T
  have G_playable_now : FnOk P w K mg base CX0 5 _ _ _ _ := ok_playable_now T
  have G_whose_turn : FnOk P w K mg base CX0 1 _ _ _ _ := ok_whose_turn T
  have G_set_of : FnOk P w K mg base CX0 1 _ _ _ _ := ok_set_of T
  have G_end_trick : FnOk P w K mg base CX0 5 _ _ _ _ := ok_end_trick T
  refine T.d_play.fn.ok sc_play (fun vs H Q E h => ?_) (fun cdv A outer s H vs Q E hr h => ?_)
  · obtain ⟨a, l, t, en, p, x, rfl, _⟩ := h
    rfl
  · obtain ⟨a, l, t, en, p, card, rfl, G, ht, lt, po, k1, k2, k3⟩ := h
    have G0 := G
    have ne := G.ne
    obtain ⟨⟨dx, h1⟩, hl⟩ := G
    have ta : t ≠ a := ne_of ht h1 (by intro z; cases z)
    have hr_holds := hr.mono (show 1 ≤ 5 by decide)
    have hr_playable_now := hr
    have hr_whose_turn := hr.mono (show 1 ≤ 5 by decide)
    have hr_set_of := hr.mono (show 1 ≤ 5 by decide)
    have hr_end_trick := hr
    refine ⟨_, (pss_cons (ps_if (PW.pt (pw_or (pt_cmp (pc_neI (pe_fld (pv 0) rfl) (pe_gint rfl T.c_PLAYING))) (pw_or1 (pt_not (pt_val (pe_def T.d_holds G_holds hr_holds rfl (pa_cons (pe_def T.d_playable_now G_playable_now hr_playable_now rfl (pa_cons (pv 0) pa_nil)) (pa_cons (pv 1) pa_nil)))))))) (pss_one (ps_ret (pe_gint rfl T.c_REFUSED))) pss_nil)
      (pss_cons (ps_set (i := 2) nd rfl (Or.inl rfl) (pe_def T.d_whose_turn G_whose_turn hr_whose_turn rfl (pa_cons (pv 0) pa_nil)))
      (pss_cons (ps_asg (pe_op op_xor (pe_ix ix_list (pe_fld (pv 0) rfl) (pv 2) (fun _ _ => rfl)) (pe_def T.d_set_of G_set_of hr_set_of rfl (pa_cons (pe_lst (pa_cons (pv 1) pa_nil)) pa_nil))) (pg_sub (pe_fld (pv 0) rfl) (pv 2) set_list))
      (pss_cons (ps_expr (pe_bm PySem.F.plainAttrs_list PySem.F.slot_list_append PySem.F.type_list_append mt_append (pe_fld (pv 0) rfl) (pa_cons (pv 1) pa_nil)))
      (pss_cons (ps_if (pt_cmp (pc_eqI (pe_callB call_len_seq (by rfl) T.nLen PySem.boot_len (pa_cons (pe_fld (pv 0) rfl) pa_nil)) (pe_gint rfl T.c_PLAYERS))) (pss_one (ps_expr (pe_def T.d_end_trick G_end_trick hr_end_trick rfl (pa_cons (pv 0) pa_nil)))) pss_nil)
      (pss_one (ps_ret (pe_fld (pv 0) rfl)))))))), ?_⟩
    refine ⟨_, rfl, rd_fld (i := 2) h1 T.k_Game.cl (T.k_Game.no 2 _ rfl) nd_Game rfl rfl ⟨_, _, rfl, rfl, _, rfl, itN (fun hc => ?_) (fun hc => ?_)⟩⟩
    · exact iteT (k1 (.inl hc) H fun _ _ z => z)
    obtain ⟨po, tl⟩ := po hc
    refine ⟨_, rfl, a, l, t, en, p, rfl, G0, ht, po, fun H1 s1 => ⟨_, rfl, _, _, rfl, _, rfl, ?_⟩⟩
    cases hA : Tc.mHolds (Tc.mNow p) card with
    | false => exact iteT (k1 (.inr hA) H1 s1)
    | true =>
      refine iteF ?_
      have c32 := holds_lt (now_lt po) hA
      have j3 := (turn_lt3 p).1
      have hj := (po.get j3).1
      refine ⟨_, rfl, a, l, t, en, p, rfl, G0.same s1, s1 _ _ ht, trivial, fun H2 s2 => ?_⟩
      have s12 := s1.trans s2
      have h2 := s12 _ _ h1
      have hl2 := s12 _ _ hl
      have ht2 := s12 _ _ ht
      refine ⟨_, rfl, rd_fld (i := 0) h2 T.k_Game.cl (T.k_Game.no 0 _ rfl) nd_Game rfl rfl ⟨_, rfl, l, _, _, _, rfl, rfl, SqL.of hl2, atI_in (j := Tc.mTurn p) rfl hj, _, rfl, (by show 1 ≤ sizeLine; decide), fun q fq => ⟨q, [card], rfl, SqL.of upd_same, fun c hc => by simp at hc; omega, ?_⟩⟩⟩
      have qa : a ≠ q := ne_of_none h2 fq
      have ql : l ≠ q := ne_of_none hl2 fq
      have qt : t ≠ q := ne_of_none ht2 fq
      have h2q : ∀ o, (upd H2 q o) a = some (.ins T.k_Game.C dx (ks_Game.zip (gv l t en p))) := fun o => by rw [upd_ne qa]; exact h2
      refine ⟨_, _, rfl, rfl, _, rfl, rd_fld (i := 0) (h2q _) T.k_Game.cl (T.k_Game.no 0 _ rfl) nd_Game rfl rfl ⟨_, rfl, l, hv p, _, Tc.mTurn p, rfl, rfl, by rw [upd_ne ql]; exact hl2, ixN_nat (by unfold hv; rw [List.length_map, po.three]; exact j3), ?_⟩⟩
      dsimp only
      rw [bxor]
      have ehv : (hv p).set (Tc.mTurn p) (V.int ((p.hands.getD (Tc.mTurn p) 0 ^^^ Tc.mSetOf [card] : Nat) : Int)) = hv (Tc.mPut p card) := by
        unfold hv
        show _ = (p.hands.set _ _).map _
        rw [List.map_set]
      rw [ehv]
      have h3 : ∀ o, (upd (upd H2 q (.lst [V.int card])) l o) a = some (.ins T.k_Game.C dx (ks_Game.zip (gv l t en p))) := fun o => by rw [upd_ne ne.symm]; exact h2q _
      have ht3 : ∀ o, (upd (upd H2 q (.lst [V.int card])) l o) t = some (.lst (p.trick.map V.int)) := fun o => by rw [upd_ne lt.symm, upd_ne qt]; exact ht2
      have sl : (10000 : Nat) < sizeLine := by decide
      refine ⟨_, rfl, rd_fld (i := 12) (h3 _) T.k_Game.cl (T.k_Game.no 12 _ rfl) nd_Game rfl rfl ⟨.inl ⟨rfl, _, SqL.of (ht3 _)⟩, _, rfl, t, _, _, rfl, rfl, ht3 _, by rw [List.length_map]; omega, ?_⟩⟩
      have etr : p.trick.map V.int ++ [V.int card] = (Tc.mPut p card).trick.map V.int := by
        show _ = (p.trick ++ [card]).map V.int
        simp
      rw [etr]
      have h4 : ∀ o, (upd (upd (upd H2 q (.lst [V.int card])) l (.lst (hv (Tc.mPut p card)))) t o) a = some (.ins T.k_Game.C dx (ks_Game.zip (gv l t en p))) := fun o => by rw [upd_ne ta.symm]; exact h3 _
      have G4 : GameAt T.k_Game.C (upd (upd (upd H2 q (.lst [V.int card])) l (.lst (hv (Tc.mPut p card)))) t (.lst ((Tc.mPut p card).trick.map V.int))) a l t en (Tc.mPut p card) := ⟨⟨dx, h4 _⟩, by rw [upd_ne lt]; exact upd_same⟩
      have kp : ∀ b o, H b = some o → b ≠ l → b ≠ t → (upd (upd (upd H2 q (.lst [V.int card])) l (.lst (hv (Tc.mPut p card)))) t (.lst ((Tc.mPut p card).trick.map V.int))) b = some o := fun b o e n1 n2 => by
        have e2 := s12 b o e
        rw [upd_ne n2, upd_ne n1, upd_ne (ne_of_none e2 fq)]
        exact e2
      obtain ⟨po', tne⟩ := put_ok po tl c32
      refine ⟨_, rfl, rd_fld (i := 12) (h4 _) T.k_Game.cl (T.k_Game.no 12 _ rfl) nd_Game rfl rfl ⟨t, _, rfl, .inl (SqL.of upd_same), _, _, rfl, rfl, _, rfl, itD (fun h3' => ?_) (fun h3' => ?_)⟩⟩
      · have e3 : p.trick.length + 1 = 3 := by
          rw [List.length_map] at h3'
          have : (Tc.mPut p card).trick.length = p.trick.length + 1 := by show (p.trick ++ [card]).length = _; simp
          omega
        refine ⟨_, rfl, a, l, t, en, Tc.mPut p card, rfl, G4, upd_same, po', tne, fun j t' H5 fm G5 h5 f5 kp5 => ?_⟩
        have free : H t' = none := by
          cases q0 : H t' with
          | none => rfl
          | some o0 =>
            by_cases n1 : t' = l
            · rw [n1, upd_ne lt, upd_same] at f5; cases f5
            · by_cases n2 : t' = t
              · rw [n2, upd_same] at f5; cases f5
              · rw [kp t' o0 q0 n1 n2] at f5; cases f5
        obtain ⟨⟨dx5, h5a⟩, h5l⟩ := G5
        refine ⟨_, rfl, rd_fld (i := 2) h5a T.k_Game.cl (T.k_Game.no 2 _ rfl) nd_Game rfl rfl ?_⟩
        exact k3 hc hA e3 j t' H5 fm ⟨⟨dx5, h5a⟩, h5l⟩ h5 free fun b o e n0 n1 n2 => kp5 b o (kp b o e n1 n2) n0
      · have e3 : p.trick.length + 1 ≠ 3 := by
          rw [List.length_map] at h3'
          have : (Tc.mPut p card).trick.length = p.trick.length + 1 := by show (p.trick ++ [card]).length = _; simp
          omega
        refine ⟨_, rfl, rd_fld (i := 2) (h4 _) T.k_Game.cl (T.k_Game.no 2 _ rfl) nd_Game rfl rfl ?_⟩
        exact k2 hc hA e3 _ G4 upd_same fun b o e n0 n1 n2 => kp b o e n1 n2
end
end Prog
namespace Prog
open PySem L2
/-! ### what a game shows of itself -/
structure HdOk (p : Tc.PG) : Prop where
  three : p.hands.length = 3
  small : ∀ m, m ∈ p.hands → m < 2 ^ 32
  away : p.away < 2 ^ 32
def spHand (C : Addr) : Sp := fun vs H Q _ => ∃ (a l t : Addr) (en : V) (p : Tc.PG) (who : Int), vs = [.ref a, .int who] ∧ GameAt C H a l t en p ∧ HdOk p ∧
  ∀ q H', H' q = some (.lst ((Tc.mHand p who).map V.int)) → H q = none → Same H H' → Q (.ref q) H'
section
variable {P : Program} {w : World} {K : PySem.W.Frag} {mg : Str → Option Value} {base : Heap}
theorem ok_hand (T : Txt K mg) : FnOk P w K mg base CX0 3 T.d_hand.f T.d_hand.fd ["game", "who"] (spHand T.k_Game.C) := by
  have nd := sc_hand.nd
  have G_counted : FnOk P w K mg base CX0 2 _ _ _ _ := ok_counted T
  refine T.d_hand.fn.ok sc_hand (fun vs H Q E h => ?_) (fun cdv A outer s H vs Q E hr h => ?_)
  · obtain ⟨a, l, t, en, p, x, rfl, _⟩ := h
    rfl
  · obtain ⟨a, l, t, en, p, who, rfl, G, po, k⟩ := h
    obtain ⟨⟨dx, h1⟩, hl⟩ := G
    have hr_counted := hr
    refine ⟨_, (pss_cons (ps_if (pt_cmp (pc_eqI (pv 1) (pe_gint rfl T.c_AWAY))) (pss_one (ps_ret (pe_def T.d_counted G_counted hr_counted rfl (pa_cons (pe_fld (pv 0) rfl) pa_nil)))) pss_nil)
      (pss_cons (ps_if (pt_chain op_le op_lt pe_int (pv 1) (pe_gint rfl T.c_PLAYERS)) (pss_one (ps_ret (pe_def T.d_counted G_counted hr_counted rfl (pa_cons (pe_ix ix_list (pe_fld (pv 0) rfl) (pv 1) (fun _ _ => rfl)) pa_nil)))) pss_nil)
      (pss_one (ps_ret (pe_lst (pa_cons (pe_gint rfl T.c_REFUSED) pa_nil)))))), ?_⟩
    unfold Tc.mHand at k
    refine ⟨_, rfl, _, _, rfl, rfl, _, rfl, itD (fun h3 => ?_) (fun h3 => ?_)⟩
    · rw [if_pos h3] at k
      exact ⟨_, rfl, rd_fld (i := 1) h1 T.k_Game.cl (T.k_Game.no 1 _ rfl) nd_Game rfl rfl ⟨_, rfl, po.away, fun q H2 h2 f2 s2 => k q H2 h2 f2 s2⟩⟩
    rw [if_neg h3] at k
    refine ⟨_, rfl, _, _, rfl, rfl, _, rfl, itD (fun h0 => ?_) (fun h0 => ?_)⟩
    · refine ⟨_, _, rfl, rfl, _, rfl, itD (fun hb => ?_) (fun hb => ?_)⟩
      · rw [if_pos ⟨h0, hb⟩] at k
        have hj : who.toNat < p.hands.length := by rw [po.three]; omega
        have e : p.hands[who.toNat]? = some (p.hands.getD who.toNat 0) := by rw [List.getD_eq_getElem?_getD, List.getElem?_eq_getElem hj]; rfl
        have hv' : (hv p)[who.toNat]? = some (V.int ((p.hands.getD who.toNat 0 : Nat) : Int)) := by unfold hv; rw [List.getElem?_map, e]; rfl
        refine ⟨_, rfl, rd_fld (i := 0) h1 T.k_Game.cl (T.k_Game.no 0 _ rfl) nd_Game rfl rfl ⟨_, rfl, l, _, _, _, rfl, rfl, SqL.of hl, atI_in (j := who.toNat) (by omega) hv', ?_⟩⟩
        exact ⟨_, rfl, po.small _ (List.mem_of_getElem? e), fun q H2 h2 f2 s2 => k q H2 h2 f2 s2⟩
      · rw [if_neg (fun z => hb z.2)] at k
        exact ⟨(by show 1 ≤ sizeLine; decide), fun q fq => k q _ upd_same fq (Same.upd fq)⟩
    · rw [if_neg (fun z => h0 z.1)] at k
      refine ⟨_, rfl, iteF ?_⟩
      exact ⟨(by show 1 ≤ sizeLine; decide), fun q fq => k q _ upd_same fq (Same.upd fq)⟩
theorem ok_who_acts (T : Txt K mg) : FnOk P w K mg base CX0 2 T.d_who_acts.f T.d_who_acts.fd ["game"] (spRd T.k_Game.C (fun _ => True) fun p => .int (Tc.mActs p)) := by
  have nd := sc_who_acts.nd
  have G_whose_turn : FnOk P w K mg base CX0 1 _ _ _ _ := ok_whose_turn T
  refine T.d_who_acts.fn.ok sc_who_acts (fun vs H Q E h => ?_) (fun cdv A outer s H vs Q E hr h => ?_)
  · obtain ⟨a, l, t, en, p, rfl, _⟩ := h
    rfl
  · obtain ⟨a, l, t, en, p, rfl, G, ht, _, k⟩ := h
    try dsimp only at k
    have G0 := G
    obtain ⟨⟨dx, h1⟩, hl⟩ := G
    have hr_whose_turn := hr
    refine ⟨_, (pss_cons (ps_if (pt_cmp (pc_eqI (pe_fld (pv 0) rfl) (pe_gint rfl T.c_VALUE_AWAITED))) (pss_one (ps_ret (pe_fld (pv 0) rfl))) pss_nil)
      (pss_cons (ps_if (pt_cmp (pc_eqI (pe_fld (pv 0) rfl) (pe_gint rfl T.c_REPLY_AWAITED))) (pss_one (ps_ret (pe_fld (pv 0) rfl))) pss_nil)
      (pss_cons (ps_if (pt_cmp (pc_eqI (pe_fld (pv 0) rfl) (pe_gint rfl T.c_LAST_WORD_AWAITED))) (pss_one (ps_ret pe_int)) pss_nil)
      (pss_cons (ps_if (pt_cmp (pc_eqI (pe_fld (pv 0) rfl) (pe_gint rfl T.c_PLAYING))) (pss_one (ps_ret (pe_def T.d_whose_turn G_whose_turn hr_whose_turn rfl (pa_cons (pv 0) pa_nil)))) pss_nil)
      (pss_cons (ps_if (pt_cmp (pc_eqI (pe_fld (pv 0) rfl) (pe_gint rfl T.c_OVER))) (pss_one (ps_ret (pe_gint rfl T.c_NOBODY))) pss_nil)
      (pss_one (ps_ret (pe_fld (pv 0) rfl)))))))), ?_⟩
    have k0 := k H fun _ _ z => z
    unfold Tc.mActs at k k0
    refine ⟨_, rfl, rd_fld (i := 2) h1 T.k_Game.cl (T.k_Game.no 2 _ rfl) nd_Game rfl rfl ⟨_, _, rfl, rfl, _, rfl, itD (fun h0 => ?_) (fun h0 => ?_)⟩⟩
    · rw [if_pos h0] at k0
      exact ⟨_, rfl, rd_fld (i := 3) h1 T.k_Game.cl (T.k_Game.no 3 _ rfl) nd_Game rfl rfl k0⟩
    rw [if_neg h0] at k k0
    refine ⟨_, rfl, rd_fld (i := 2) h1 T.k_Game.cl (T.k_Game.no 2 _ rfl) nd_Game rfl rfl ⟨_, _, rfl, rfl, _, rfl, itD (fun h2 => ?_) (fun h2 => ?_)⟩⟩
    · rw [if_pos h2] at k0
      exact ⟨_, rfl, rd_fld (i := 4) h1 T.k_Game.cl (T.k_Game.no 4 _ rfl) nd_Game rfl rfl k0⟩
    rw [if_neg h2] at k k0
    refine ⟨_, rfl, rd_fld (i := 2) h1 T.k_Game.cl (T.k_Game.no 2 _ rfl) nd_Game rfl rfl ⟨_, _, rfl, rfl, _, rfl, itD (fun h3 => ?_) (fun h3 => ?_)⟩⟩
    · rw [if_pos h3] at k0
      exact k0
    rw [if_neg h3] at k k0
    refine ⟨_, rfl, rd_fld (i := 2) h1 T.k_Game.cl (T.k_Game.no 2 _ rfl) nd_Game rfl rfl ⟨_, _, rfl, rfl, _, rfl, itD (fun h4 => ?_) (fun h4 => ?_)⟩⟩
    · rw [if_pos h4] at k
      exact ⟨_, rfl, a, l, t, en, p, rfl, G0, ht, trivial, fun H1 s1 => k H1 s1⟩
    rw [if_neg h4] at k k0
    refine ⟨_, rfl, rd_fld (i := 2) h1 T.k_Game.cl (T.k_Game.no 2 _ rfl) nd_Game rfl rfl ⟨_, _, rfl, rfl, _, rfl, itD (fun h5 => ?_) (fun h5 => ?_)⟩⟩
    · rw [if_pos h5] at k0
      exact k0
    rw [if_neg h5] at k0
    exact ⟨_, rfl, rd_fld (i := 6) h1 T.k_Game.cl (T.k_Game.no 6 _ rfl) nd_Game rfl rfl k0⟩
theorem ok_state (T : Txt K mg) : FnOk P w K mg base CX0 3 T.d_state.f T.d_state.fd ["game"] (spLs T.k_Game.C Small Tc.mState) := by
  have nd := sc_state.nd
  have G_points_so_far : FnOk P w K mg base CX0 2 _ _ _ _ := ok_points_so_far T
  have G_who_acts : FnOk P w K mg base CX0 2 _ _ _ _ := ok_who_acts T
  refine T.d_state.fn.ok sc_state (fun vs H Q E h => ?_) (fun cdv A outer s H vs Q E hr h => ?_)
  · obtain ⟨a, l, t, en, p, rfl, _⟩ := h
    rfl
  · obtain ⟨a, l, t, en, p, rfl, G, ht, po, k⟩ := h
    try dsimp only at k
    have G0 := G
    obtain ⟨⟨dx, h1⟩, hl⟩ := G
    have hr_points_so_far := hr
    have hr_who_acts := hr
    refine ⟨_, (pss_cons (ps_set (i := 1) nd rfl (Or.inl rfl) (pe_ifExp (pt_cmp (pc_isN (pe_fld (pv 0) rfl))) pe_int (pe_def T.d_points_so_far G_points_so_far hr_points_so_far rfl (pa_cons (pv 0) pa_nil))))
      (pss_one (ps_ret (pe_lst (pa_cons (pe_fld (pv 0) rfl) (pa_cons (pe_def T.d_who_acts G_who_acts hr_who_acts rfl (pa_cons (pv 0) pa_nil)) (pa_cons (pe_fld (pv 0) rfl) (pa_cons (pe_fld (pv 0) rfl) (pa_cons (pv 1) (pa_cons (pe_fld (pv 0) rfl) (pa_cons (pe_callB call_len_seq (by rfl) T.nLen PySem.boot_len (pa_cons (pe_fld (pv 0) rfl) pa_nil)) pa_nil))))))))))), ?_⟩
    unfold Tc.mState at k
    refine ⟨_, rfl, rd_fld (i := 9) h1 T.k_Game.cl (T.k_Game.no 9 _ rfl) nd_Game rfl rfl ⟨_, rfl, ?_⟩⟩
    cases hd : p.declared with
    | none =>
      rw [if_pos hd] at k
      refine iteT ?_
      refine ⟨_, rfl, rd_fld (i := 2) h1 T.k_Game.cl (T.k_Game.no 2 _ rfl) nd_Game rfl rfl ⟨_, rfl, a, l, t, en, p, rfl, G0, ht, trivial, fun H1 s1 => ⟨_, rfl, rd_fld (i := 6) (s1 _ _ h1) T.k_Game.cl (T.k_Game.no 6 _ rfl) nd_Game rfl rfl ⟨_, rfl, rd_fld (i := 5) (s1 _ _ h1) T.k_Game.cl (T.k_Game.no 5 _ rfl) nd_Game rfl rfl ⟨_, rfl, _, rfl, rd_fld (i := 14) (s1 _ _ h1) T.k_Game.cl (T.k_Game.no 14 _ rfl) nd_Game rfl rfl ⟨_, rfl, rd_fld (i := 12) (s1 _ _ h1) T.k_Game.cl (T.k_Game.no 12 _ rfl) nd_Game rfl rfl ⟨t, _, rfl, .inl (SqL.of (s1 _ _ ht)), (by show 7 ≤ sizeLine; decide), fun q fq => k q _ ?_ (s1.free fq) (s1.trans (Same.upd fq))⟩⟩⟩⟩⟩⟩⟩
      rw [upd_same, List.length_map]
      rfl
    | some d =>
      rw [if_neg (by rw [hd]; intro z; cases z)] at k
      refine iteF ?_
      refine ⟨_, rfl, a, l, t, en, p, rfl, G0, ht, po, fun H0 s0 => ?_⟩
      refine ⟨_, rfl, rd_fld (i := 2) (s0 _ _ h1) T.k_Game.cl (T.k_Game.no 2 _ rfl) nd_Game rfl rfl ⟨_, rfl, a, l, t, en, p, rfl, G0.same s0, s0 _ _ ht, trivial, fun H1 s1 => ?_⟩⟩
      have s01 := s0.trans s1
      refine ⟨_, rfl, rd_fld (i := 6) (s01 _ _ h1) T.k_Game.cl (T.k_Game.no 6 _ rfl) nd_Game rfl rfl ⟨_, rfl, rd_fld (i := 5) (s01 _ _ h1) T.k_Game.cl (T.k_Game.no 5 _ rfl) nd_Game rfl rfl ⟨_, rfl, _, rfl, rd_fld (i := 14) (s01 _ _ h1) T.k_Game.cl (T.k_Game.no 14 _ rfl) nd_Game rfl rfl ⟨_, rfl, rd_fld (i := 12) (s01 _ _ h1) T.k_Game.cl (T.k_Game.no 12 _ rfl) nd_Game rfl rfl ⟨t, _, rfl, .inl (SqL.of (s01 _ _ ht)), (by show 7 ≤ sizeLine; decide), fun q fq => k q _ ?_ (s01.free fq) (s01.trans (Same.upd fq))⟩⟩⟩⟩⟩
      rw [upd_same, List.length_map]
      rfl
end
end Prog
namespace Prog
open PySem L2
/-! ### what a game comes to -/
structure RkOk (p : Tc.PG) (d : Nat) : Prop where
  small : Small p
  d6 : d < 6
  game : p.declared = some (d : Int)
  said : 0 ≤ p.said
def spHas (C : Addr) : Sp := fun vs H Q _ => ∃ (a l t : Addr) (en : V) (p : Tc.PG) (what : Nat), vs = [.ref a, .int (what : Int)] ∧ GameAt C H a l t en p ∧ 0 ≤ p.said ∧ Q (.bl (Tc.mHas p what)) H
theorem takeWhile_len {α : Type} {f : α → Bool} : ∀ {l : List α} {i : Nat}, i ≤ l.length → (∀ m x, m < i → l[m]? = some x → f x = true) → (∀ x, l[i]? = some x → f x = false) → (l.takeWhile f).length = i
  | [], i, hi, _, _ => by simp at hi; simp [hi]
  | a :: r, 0, _, _, h2 => by
    rw [List.takeWhile_cons, h2 a rfl]
    rfl
  | a :: r, i + 1, hi, h1, h2 => by
    rw [List.takeWhile_cons, h1 0 a (by omega) rfl]
    simp only [if_true, List.length_cons]
    rw [takeWhile_len (i := i) (by simpa using hi) (fun m x hm hx => h1 (m + 1) x (by omega) hx) h2]
section
variable {P : Program} {w : World} {K : PySem.W.Frag} {mg : Str → Option Value} {base : Heap}
theorem ok_has_said (T : Txt K mg) : FnOk P w K mg base CX0 1 T.d_has_said.f T.d_has_said.fd ["game", "what"] (spHas T.k_Game.C) := by
  have nd := sc_has_said.nd
  refine T.d_has_said.fn.ok sc_has_said (fun vs H Q E h => ?_) (fun cdv A outer s H vs Q E hr h => ?_)
  · obtain ⟨a, l, t, en, p, x, rfl, _⟩ := h
    rfl
  · obtain ⟨a, l, t, en, p, what, rfl, G, h0, k⟩ := h
    obtain ⟨⟨dx, h1⟩, hl⟩ := G
    refine ⟨_, (pss_one (ps_ret (pe_cmp (pc_neI (pe_op op_and (pe_fld (pv 0) rfl) (pv 1)) pe_int)))), ?_⟩
    refine ⟨_, rfl, rd_fld (i := 10) h1 T.k_Game.cl (T.k_Game.no 10 _ rfl) nd_Game rfl rfl ⟨_, rfl, _, _, rfl, rfl, _, _, rfl, rfl, ?_⟩⟩
    have e : p.said = ((p.said.toNat : Nat) : Int) := by omega
    have e2 : Tc.mHas p what = !decide (Builtin.bitAnd p.said (what : Int) = 0) := by
      unfold Tc.mHas
      rw [e, band, Int.toNat_natCast]
      by_cases hz : p.said.toNat &&& what = 0
      · rw [hz]; rfl
      · rw [decide_eq_true hz, decide_eq_false (by omega)]
        rfl
    rw [e2] at k
    exact k
theorem ok_worth_of_null (T : Txt K mg) : FnOk P w K mg base CX0 2 T.d_worth_of_null.f T.d_worth_of_null.fd ["game"] (spRd T.k_Game.C (fun p => 0 ≤ p.said) fun p => .int (Tc.mWorthNull p)) := by
  have nd := sc_worth_of_null.nd
  have G_has_said : FnOk P w K mg base CX0 1 _ _ _ _ := ok_has_said T
  refine T.d_worth_of_null.fn.ok sc_worth_of_null (fun vs H Q E h => ?_) (fun cdv A outer s H vs Q E hr h => ?_)
  · obtain ⟨a, l, t, en, p, rfl, _⟩ := h
    rfl
  · obtain ⟨a, l, t, en, p, rfl, G, ht, po, k⟩ := h
    try dsimp only at k
    have G0 := G
    obtain ⟨⟨dx, h1⟩, hl⟩ := G
    have hr_has_said := hr
    refine ⟨_, (pss_cons (ps_if (pt_val (pe_def T.d_has_said G_has_said hr_has_said rfl (pa_cons (pv 0) (pa_cons (pe_gint rfl T.c_SAID_OPEN) pa_nil)))) (pss_one (ps_ret (pe_ifExp (pt_val (pe_fld (pv 0) rfl)) pe_int pe_int))) pss_nil)
      (pss_one (ps_ret (pe_ifExp (pt_val (pe_fld (pv 0) rfl)) pe_int pe_int)))), ?_⟩
    have k0 := k H fun _ _ z => z
    unfold Tc.mWorthNull at k0
    refine ⟨_, rfl, a, l, t, en, p, 4, rfl, G0, po, _, rfl, ?_⟩
    cases h4 : Tc.mHas p 4 with
    | true =>
      rw [if_pos h4] at k0
      refine iteT ⟨_, rfl, rd_fld (i := 8) h1 T.k_Game.cl (T.k_Game.no 8 _ rfl) nd_Game rfl rfl ⟨_, rfl, ?_⟩⟩
      cases hf : p.fromHand with
      | true => rw [if_pos hf] at k0; exact iteT k0
      | false => rw [if_neg (by rw [hf]; decide)] at k0; exact iteF k0
    | false =>
      rw [if_neg (by rw [h4]; decide)] at k0
      refine iteF ⟨_, rfl, rd_fld (i := 8) h1 T.k_Game.cl (T.k_Game.no 8 _ rfl) nd_Game rfl rfl ⟨_, rfl, ?_⟩⟩
      cases hf : p.fromHand with
      | true => rw [if_pos hf] at k0; exact iteT k0
      | false => rw [if_neg (by rw [hf]; decide)] at k0; exact iteF k0
theorem ok_tops (T : Txt K mg) : FnOk P w K mg base CX0 3 T.d_tops.f T.d_tops.fd ["game"] (spRd T.k_Game.C (fun p => ∃ d : Nat, d < 5 ∧ p.declared = some (d : Int)) fun p => .int (Tc.mTops p (p.declared.getD 0) : Nat)) := by
  have nd := sc_tops.nd
  have G_trumps : FnOk P w K mg base CX0 2 _ _ _ _ := ok_trumps T
  have G_holds : FnOk P w K mg base CX0 1 _ _ _ _ := ok_holds T
  refine T.d_tops.fn.ok sc_tops (fun vs H Q E h => ?_) (fun cdv A outer s H vs Q E hr h => ?_)
  · obtain ⟨a, l, t, en, p, rfl, _⟩ := h
    rfl
  · obtain ⟨a, l, t, en, p, rfl, G, ht, ⟨d, d5, ed⟩, k⟩ := h
    try dsimp only at k
    obtain ⟨⟨dx, h1⟩, hl⟩ := G
    have hr_trumps := hr
    have hr_holds := hr.mono (show 1 ≤ 2 by decide)
    have ev : optV p.declared = V.int (d : Int) := by rw [ed]; rfl
    have eg : p.declared.getD 0 = (d : Int) := by rw [ed]; rfl
    rw [eg] at k
    refine ⟨_, (pss_cons (ps_set (i := 1) nd rfl (Or.inl rfl) (pe_def T.d_trumps G_trumps hr_trumps rfl (pa_cons (pe_fld (pv 0) rfl) pa_nil)))
      (pss_cons (ps_set (i := 2) nd rfl (Or.inl rfl) (pe_def T.d_holds G_holds hr_holds rfl (pa_cons (pe_fld (pv 0) rfl) (pa_cons (pe_ix ix_list (pv 1) pe_int (fun _ _ => rfl)) pa_nil))))
      (pss_cons (ps_set (i := 3) nd rfl (Or.inl rfl) pe_int)
      (pss_cons (ps_while PassesOwn.never (PW.pt (pw_and (pt_cmp (pc_lt (pv 3) (pe_callB call_len_seq (by rfl) T.nLen PySem.boot_len (pa_cons (pv 1) pa_nil)))) (pw_and1 (pt_cmpR op_eq (pe_def T.d_holds G_holds hr_holds rfl (pa_cons (pe_fld (pv 0) rfl) (pa_cons (pe_ix ix_list (pv 1) (pv 3) (fun _ _ => rfl)) pa_nil))) (pv 2) (nomark _))))) (pss_one (ps_aug (i := 3) nd rfl (Or.inl rfl) pe_int ip_add)))
      (pss_one (ps_ret (pv 3))))))), ?_⟩
    refine ⟨_, rfl, rd_fld (i := 9) h1 T.k_Game.cl (T.k_Game.no 9 _ rfl) nd_Game rfl rfl ?_⟩
    rw [ev]
    refine ⟨_, rfl, fun q H1 hq fq s1 => ?_⟩
    have h1' := s1 _ _ h1
    obtain ⟨o0, rest, eo⟩ : ∃ o0 rest, Tc.mTrumps (d : Nat) = o0 :: rest := by
      have : d = 0 ∨ d = 1 ∨ d = 2 ∨ d = 3 ∨ d = 4 := by omega
      rcases this with z | z | z | z | z <;> subst z <;> exact ⟨_, _, rfl⟩
    have hq0 : ((Tc.mTrumps (d : Nat)).map V.int)[0]? = some (V.int o0) := by rw [eo]; rfl
    refine ⟨_, rfl, rd_fld (i := 7) h1' T.k_Game.cl (T.k_Game.no 7 _ rfl) nd_Game rfl rfl ⟨_, rfl, q, _, _, _, rfl, rfl, SqL.of hq, atI_in (j := 0) rfl hq0, ?_⟩⟩
    refine ⟨_, o0, rfl, ?_⟩
    -- while
    refine ⟨fun m σ H2 => ∃ i : Nat, m = (Tc.mTrumps (d : Nat)).length - i ∧ σ = [some (.ref a), some (.ref q), some (.bl (Tc.mHolds p.had o0)), some (.int (i : Int))] ∧ H2 = H1 ∧ i ≤ (Tc.mTrumps (d : Nat)).length ∧ ∀ (m : Nat) x, m < i → (Tc.mTrumps (d : Nat))[m]? = some x → (Tc.mHolds p.had x == Tc.mHolds p.had o0) = true,
      ⟨_, 0, rfl, rfl, rfl, Nat.zero_le _, fun m x hm => absurd hm (Nat.not_lt_zero m)⟩, ?_⟩
    rintro m σ H2 ⟨i, rfl, rfl, rfl, hi, hall⟩
    have fin : (∀ x, (Tc.mTrumps (d : Nat))[i]? = some x → (Tc.mHolds p.had x == Tc.mHolds p.had o0) = false) → Q (.int (i : Int)) H2 := fun h => by
      have e : Tc.mTops p (d : Nat) = i := by
        unfold Tc.mTops
        have e0 : (Tc.mTrumps (d : Nat)).getD 0 0 = o0 := by rw [eo]; rfl
        rw [e0]
        exact takeWhile_len hi hall h
      rw [e] at k
      exact k H2 s1
    refine ⟨_, rfl, _, rfl, q, _, rfl, .inl (SqL.of hq), _, _, rfl, rfl, _, rfl, itD (fun hlt => ?_) (fun hlt => ?_)⟩
    · rw [List.length_map] at hlt
      have hlt' : i < (Tc.mTrumps (d : Nat)).length := by omega
      have hx := List.getElem?_eq_getElem hlt'
      generalize (Tc.mTrumps (d : Nat))[i] = x at hx
      refine ⟨_, rfl, rd_fld (i := 7) h1' T.k_Game.cl (T.k_Game.no 7 _ rfl) nd_Game rfl rfl ⟨_, rfl, _, rfl, q, _, _, _, rfl, rfl, SqL.of hq, atI_in (j := i) rfl (by rw [List.getElem?_map, hx]; rfl), _, x, rfl, _, rfl, rfl, _, rfl, ?_⟩⟩
      by_cases hb : Tc.mHolds p.had x = Tc.mHolds p.had o0
      · rw [decide_eq_true (show V.bl (Tc.mHolds p.had x) = V.bl (Tc.mHolds p.had o0) by rw [hb])]
        refine iteT ⟨fun σ' H' => ∃ i', i' = i + 1 ∧ σ' = [some (.ref a), some (.ref q), some (.bl (Tc.mHolds p.had o0)), some (.int (i' : Int))] ∧ H' = H2, ?_, ?_⟩
        · rintro σ' H' ⟨i', rfl, rfl, rfl⟩
          refine ⟨_, ?_, i + 1, rfl, rfl, rfl, hlt', fun m y hm hy => ?_⟩
          · omega
          · by_cases e : m = i
            · subst e
              rw [hx] at hy
              cases hy
              simpa using hb
            · exact hall m y (by omega) hy
        · refine ⟨_, rfl, _, _, rfl, rfl, i + 1, rfl, ?_, rfl⟩
          rfl
      · rw [decide_eq_false (fun z => hb (V.bl.inj z))]
        refine iteF ⟨_, rfl, fin fun y hy => ?_⟩
        rw [hx] at hy
        cases hy
        simpa using hb
    · rw [List.length_map] at hlt
      refine iteF ⟨_, rfl, fin fun y hy => ?_⟩
      have := (List.getElem?_eq_some_iff.mp hy).1
      omega
end
section
variable {P : Program} {w : World} {K : PySem.W.Frag} {mg : Str → Option Value} {base : Heap}
theorem count_true (bs : List Bool) : (bs.map V.bl).countP (fun z => eqV z (.bl true)) = bs.count true := by
  induction bs with
  | nil => rfl
  | cons b r ih =>
    rw [List.map_cons, List.countP_cons, List.count_cons, ih]
    rfl
theorem flat_bools (bs : List Bool) : (bs.map V.bl).all flatV = true := by
  induction bs with
  | nil => rfl
  | cons b r ih => rw [List.map_cons, List.all_cons, ih]; rfl
/-- a or b or c -/
theorem or_three {t1 t2 t3 : TE} {σ : St} {H : Hp} {Q : VK} (b1 b2 b3 : Bool) (h1 : ∀ Q : VK, Q (.bl b1) H → t1 σ H Q) (h2 : ∀ Q : VK, Q (.bl b2) H → t2 σ H Q) (h3 : ∀ Q : VK, Q (.bl b3) H → t3 σ H Q) (q : Q (.bl (b1 || (b2 || b3))) H) :
    tOrV t1 (tOrV t2 t3) σ H Q := by
  refine h1 _ ⟨_, rfl, ?_⟩
  cases b1 with
  | true => exact iteT q
  | false =>
    refine iteF (h2 _ ⟨_, rfl, ?_⟩)
    cases b2 with
    | true => exact iteT q
    | false => exact iteF (h3 _ q)
theorem ok_times (T : Txt K mg) : FnOk P w K mg base CX0 4 T.d_times.f T.d_times.fd ["game"] (spRd T.k_Game.C (fun p => ∃ d : Nat, d < 5 ∧ RkOk p d) fun p => .int (Tc.mTimes p (p.declared.getD 0))) := by
  have nd := sc_times.nd
  have G_points_so_far : FnOk P w K mg base CX0 2 _ _ _ _ := ok_points_so_far T
  have G_has_said : FnOk P w K mg base CX0 1 _ _ _ _ := ok_has_said T
  have G_tops : FnOk P w K mg base CX0 3 _ _ _ _ := ok_tops T
  refine T.d_times.fn.ok sc_times (fun vs H Q E h => ?_) (fun cdv A outer s H vs Q E hr h => ?_)
  · obtain ⟨a, l, t, en, p, rfl, _⟩ := h
    rfl
  · obtain ⟨a, l, t, en, p, rfl, G, ht, ⟨d, d5, po⟩, k⟩ := h
    try dsimp only at k
    have G0 := G
    obtain ⟨⟨dx, h1⟩, hl⟩ := G
    have hr_points_so_far := hr.mono (show 2 ≤ 3 by decide)
    have hr_has_said := hr.mono (show 1 ≤ 3 by decide)
    have hr_tops := hr
    refine ⟨_, (pss_cons (ps_set (i := 1) nd rfl (Or.inl rfl) (pe_def T.d_points_so_far G_points_so_far hr_points_so_far rfl (pa_cons (pv 0) pa_nil)))
      (pss_cons (ps_set (i := 2) nd rfl (Or.inl rfl) (pe_def T.d_has_said G_has_said hr_has_said rfl (pa_cons (pv 0) (pa_cons (pe_gint rfl T.c_SAID_SCHNEIDER) pa_nil))))
      (pss_cons (ps_set (i := 3) nd rfl (Or.inl rfl) (pe_def T.d_has_said G_has_said hr_has_said rfl (pa_cons (pv 0) (pa_cons (pe_gint rfl T.c_SAID_SCHWARZ) pa_nil))))
      (pss_cons (ps_set (i := 4) nd rfl (Or.inl rfl) (pe_lst (pa_cons (pe_fld (pv 0) rfl) (pa_cons (pe_or (pe_cmp (pc_ge (pv 1) pe_int)) (pe_or (pe_cmp (pc_le (pv 1) pe_int)) (pe_one (pv 2)))) (pa_cons (pv 2) (pa_cons (pe_or (pe_cmp (pc_eqI (pe_fld (pv 0) rfl) (pe_gint rfl T.c_ALL_TRICKS))) (pe_or (pe_cmp (pc_eqI (pe_fld (pv 0) rfl) pe_int)) (pe_one (pv 3)))) (pa_cons (pv 3) (pa_cons (pe_def T.d_has_said G_has_said hr_has_said rfl (pa_cons (pv 0) (pa_cons (pe_gint rfl T.c_SAID_OPEN) pa_nil))) pa_nil))))))))
      (pss_one (ps_ret (pe_op op_add (pe_op op_add (pe_def T.d_tops G_tops hr_tops rfl (pa_cons (pv 0) pa_nil)) pe_int) (pe_bm PySem.F.plainAttrs_list PySem.F.slot_list_count PySem.F.type_list_count mt_countL (pv 4) (pa_cons pe_bl pa_nil))))))))), ?_⟩
    refine ⟨_, rfl, a, l, t, en, p, rfl, G0, ht, po.small, fun H1 s1 => ?_⟩
    have h1' := s1 _ _ h1
    have G1 := G0.same s1
    refine ⟨_, rfl, a, l, t, en, p, 1, rfl, G1, po.said, ?_⟩
    refine ⟨_, rfl, a, l, t, en, p, 2, rfl, G1, po.said, ?_⟩
    -- more = [..]
    refine ⟨_, rfl, rd_fld (i := 8) h1' T.k_Game.cl (T.k_Game.no 8 _ rfl) nd_Game rfl rfl ?_⟩
    refine or_three (decide (90 ≤ (Tc.mPoints p : Int))) (decide ((Tc.mPoints p : Int) ≤ 30)) (Tc.mHas p 1) (fun Q h => ⟨_, rfl, _, _, rfl, rfl, h⟩) (fun Q h => ⟨_, rfl, _, _, rfl, rfl, h⟩) (fun Q h => ⟨_, rfl, h⟩) ?_
    refine ⟨_, rfl, ?_⟩
    refine or_three (decide (p.tricks = 10)) (decide (p.tricks = 0)) (Tc.mHas p 2) (fun Q h => ⟨_, rfl, rd_fld (i := 14) h1' T.k_Game.cl (T.k_Game.no 14 _ rfl) nd_Game rfl rfl ⟨_, _, rfl, rfl, h⟩⟩) (fun Q h => ⟨_, rfl, rd_fld (i := 14) h1' T.k_Game.cl (T.k_Game.no 14 _ rfl) nd_Game rfl rfl ⟨_, _, rfl, rfl, h⟩⟩) (fun Q h => ⟨_, rfl, h⟩) ?_
    refine ⟨_, rfl, _, rfl, a, l, t, en, p, 4, rfl, G1, po.said, (by show 6 ≤ sizeLine; decide), fun m fm => ?_⟩
    have s2 : Same H1 (upd H1 m (.lst ((Tc.mMore p).map V.bl))) := Same.upd fm
    -- return tops(game) + 1 + more.count(True)
    refine ⟨_, rfl, a, l, t, en, p, rfl, G1.same s2, s2 _ _ (s1 _ _ ht), ⟨d, d5, po.game⟩, fun H3 s3 => ?_⟩
    have hm := s3 m _ (show upd H1 m (.lst ((Tc.mMore p).map V.bl)) m = some (.lst ((Tc.mMore p).map V.bl)) from upd_same)
    refine ⟨_, _, rfl, rfl, _, rfl, .inl ⟨rfl, _, SqL.of hm⟩, m, _, _, rfl, rfl, SqL.of hm, rfl, flat_bools _, _, _, rfl, rfl, ?_⟩
    rw [count_true]
    exact k H3 ((s1.trans s2).trans s3)
theorem ok_worth_of (T : Txt K mg) : FnOk P w K mg base CX0 5 T.d_worth_of.f T.d_worth_of.fd ["game"] (spRd T.k_Game.C (fun p => ∃ d : Nat, RkOk p d) fun p => .int (Tc.mWorth p (p.declared.getD 0))) := by
  have nd := sc_worth_of.nd
  have G_worth_of_null : FnOk P w K mg base CX0 2 _ _ _ _ := ok_worth_of_null T
  have G_times : FnOk P w K mg base CX0 4 _ _ _ _ := ok_times T
  refine T.d_worth_of.fn.ok sc_worth_of (fun vs H Q E h => ?_) (fun cdv A outer s H vs Q E hr h => ?_)
  · obtain ⟨a, l, t, en, p, rfl, _⟩ := h
    rfl
  · obtain ⟨a, l, t, en, p, rfl, G, ht, ⟨d, po⟩, k⟩ := h
    try dsimp only at k
    have G0 := G
    obtain ⟨⟨dx, h1⟩, hl⟩ := G
    have hr_worth_of_null := hr.mono (show 2 ≤ 4 by decide)
    have hr_times := hr
    have ev : optV p.declared = V.int (d : Int) := by rw [po.game]; rfl
    have eg : p.declared.getD 0 = (d : Int) := by rw [po.game]; rfl
    rw [eg] at k
    unfold Tc.mWorth at k
    refine ⟨_, (pss_cons (ps_if (pt_cmp (pc_eqI (pe_fld (pv 0) rfl) (pe_gint rfl T.c_NULL))) (pss_one (ps_ret (pe_def T.d_worth_of_null G_worth_of_null hr_worth_of_null rfl (pa_cons (pv 0) pa_nil)))) pss_nil)
      (pss_one (ps_ret (pe_op op_mul (pe_ix ix_tup (pe_gseq rfl T.c_BASES) (pe_fld (pv 0) rfl) (fun _ _ => rfl)) (pe_def T.d_times G_times hr_times rfl (pa_cons (pv 0) pa_nil)))))), ?_⟩
    refine ⟨_, rfl, rd_fld (i := 9) h1 T.k_Game.cl (T.k_Game.no 9 _ rfl) nd_Game rfl rfl ?_⟩
    rw [ev]
    refine ⟨_, _, rfl, rfl, _, rfl, itD (fun h5 => ?_) (fun h5 => ?_)⟩
    · rw [if_pos h5] at k
      exact ⟨_, rfl, a, l, t, en, p, rfl, G0, ht, po.said, k⟩
    · rw [if_neg h5] at k
      have d5 : d < 5 := by have := po.d6; omega
      intro b hb
      refine ⟨_, rfl, rd_fld (i := 9) h1 T.k_Game.cl (T.k_Game.no 9 _ rfl) nd_Game rfl rfl ?_⟩
      rw [ev]
      obtain ⟨bv, hbv, eb, bb⟩ : ∃ bv : Int, (Tc.bases.map V.int)[d]? = some (V.int bv) ∧ Tc.bases.getD d 0 = bv ∧ 0 ≤ bv ∧ bv ≤ 100 := by
        have : d = 0 ∨ d = 1 ∨ d = 2 ∨ d = 3 ∨ d = 4 := by omega
        rcases this with z | z | z | z | z <;> subst z <;> exact ⟨_, rfl, rfl, by decide, by decide⟩
      rw [Int.toNat_natCast, eb] at k
      refine ⟨b, _, _, _, rfl, rfl, hb _, atI_in (j := d) rfl hbv, _, rfl, a, l, t, en, p, rfl, G0, ht, ⟨d, d5, po⟩, fun H2 s2 => ?_⟩
      dsimp only
      rw [eg]
      exact ⟨_, _, rfl, rfl, .inl ⟨by omega, by omega⟩, k H2 s2⟩
def spLeast : Sp := fun vs H Q _ => ∃ (b n : Int), vs = [.int b, .int n] ∧ 0 < b ∧ b < 1000 ∧ Q (.int ((n + b - 1) / b * b)) H
theorem ok_least_multiple (T : Txt K mg) : FnOk P w K mg base CX0 1 T.d_least_multiple.f T.d_least_multiple.fd ["base", "bid"] spLeast := by
  have nd := sc_least_multiple.nd
  refine T.d_least_multiple.fn.ok sc_least_multiple (fun vs H Q E h => ?_) (fun cdv A outer s H vs Q E hr h => ?_)
  · obtain ⟨b, n, rfl, _⟩ := h
    rfl
  · obtain ⟨b, n, rfl, b0, b1, k⟩ := h
    refine ⟨_, (pss_one (ps_ret (pe_op op_mul (pe_op op_fdiv (pe_op op_sub (pe_op op_add (pv 1) (pv 0)) pe_int) (pv 0)) (pv 0)))), ?_⟩
    exact ⟨_, rfl, _, rfl, _, _, rfl, rfl, _, _, rfl, rfl, _, rfl, _, _, rfl, rfl, ⟨b0, by omega⟩, _, rfl, _, _, rfl, rfl, .inr ⟨by omega, by omega⟩, k⟩
theorem ok_is_won (T : Txt K mg) : FnOk P w K mg base CX0 3 T.d_is_won.f T.d_is_won.fd ["game"] (spRd T.k_Game.C (fun p => ∃ d : Nat, RkOk p d) fun p => .bl (Tc.mWon p (p.declared.getD 0))) := by
  have nd := sc_is_won.nd
  have G_has_said : FnOk P w K mg base CX0 1 _ _ _ _ := ok_has_said T
  have G_points_so_far : FnOk P w K mg base CX0 2 _ _ _ _ := ok_points_so_far T
  refine T.d_is_won.fn.ok sc_is_won (fun vs H Q E h => ?_) (fun cdv A outer s H vs Q E hr h => ?_)
  · obtain ⟨a, l, t, en, p, rfl, _⟩ := h
    rfl
  · obtain ⟨a, l, t, en, p, rfl, G, ht, ⟨d, po⟩, k⟩ := h
    try dsimp only at k
    have G0 := G
    obtain ⟨⟨dx, h1⟩, hl⟩ := G
    have hr_has_said := hr.mono (show 1 ≤ 2 by decide)
    have hr_points_so_far := hr
    have ev : optV p.declared = V.int (d : Int) := by rw [po.game]; rfl
    have eg : p.declared.getD 0 = (d : Int) := by rw [po.game]; rfl
    rw [eg] at k
    unfold Tc.mWon at k
    have k0 := k H fun _ _ z => z
    refine ⟨_, (pss_cons (ps_if (pt_cmp (pc_eqI (pe_fld (pv 0) rfl) (pe_gint rfl T.c_NULL))) (pss_one (ps_ret (pe_cmp (pc_eqI (pe_fld (pv 0) rfl) pe_int)))) pss_nil)
      (pss_cons (ps_if (pt_val (pe_def T.d_has_said G_has_said hr_has_said rfl (pa_cons (pv 0) (pa_cons (pe_gint rfl T.c_SAID_SCHWARZ) pa_nil)))) (pss_one (ps_ret (pe_cmp (pc_eqI (pe_fld (pv 0) rfl) (pe_gint rfl T.c_ALL_TRICKS))))) pss_nil)
      (pss_cons (ps_if (pt_val (pe_def T.d_has_said G_has_said hr_has_said rfl (pa_cons (pv 0) (pa_cons (pe_gint rfl T.c_SAID_SCHNEIDER) pa_nil)))) (pss_one (ps_ret (pe_cmp (pc_ge (pe_def T.d_points_so_far G_points_so_far hr_points_so_far rfl (pa_cons (pv 0) pa_nil)) pe_int)))) pss_nil)
      (pss_one (ps_ret (pe_cmp (pc_ge (pe_def T.d_points_so_far G_points_so_far hr_points_so_far rfl (pa_cons (pv 0) pa_nil)) pe_int))))))), ?_⟩
    refine ⟨_, rfl, rd_fld (i := 9) h1 T.k_Game.cl (T.k_Game.no 9 _ rfl) nd_Game rfl rfl ?_⟩
    rw [ev]
    refine ⟨_, _, rfl, rfl, _, rfl, itD (fun h5 => ?_) (fun h5 => ?_)⟩
    · rw [if_pos h5] at k0
      exact ⟨_, rfl, rd_fld (i := 14) h1 T.k_Game.cl (T.k_Game.no 14 _ rfl) nd_Game rfl rfl ⟨_, _, rfl, rfl, k0⟩⟩
    rw [if_neg h5] at k k0
    refine ⟨_, rfl, a, l, t, en, p, 2, rfl, G0, po.said, _, rfl, ?_⟩
    cases h2 : Tc.mHas p 2 with
    | true =>
      rw [if_pos h2] at k0
      exact iteT ⟨_, rfl, rd_fld (i := 14) h1 T.k_Game.cl (T.k_Game.no 14 _ rfl) nd_Game rfl rfl ⟨_, _, rfl, rfl, k0⟩⟩
    | false =>
      rw [if_neg (by rw [h2]; decide)] at k
      refine iteF ⟨_, rfl, a, l, t, en, p, 1, rfl, G0, po.said, _, rfl, ?_⟩
      cases h3 : Tc.mHas p 1 with
      | true =>
        rw [if_pos h3] at k
        exact iteT ⟨_, rfl, a, l, t, en, p, rfl, G0, ht, po.small, fun H1 s1 => ⟨_, _, rfl, rfl, k H1 s1⟩⟩
      | false =>
        rw [if_neg (by rw [h3]; decide)] at k
        exact iteF ⟨_, rfl, a, l, t, en, p, rfl, G0, ht, po.small, fun H1 s1 => ⟨_, _, rfl, rfl, k H1 s1⟩⟩
theorem ok_reckoned (T : Txt K mg) : FnOk P w K mg base CX0 6 T.d_reckoned.f T.d_reckoned.fd ["game"] (spRd T.k_Game.C (fun p => p.alone = 3 ∨ ∃ d : Nat, RkOk p d) fun p => .int (Tc.mReck p)) := by
  have nd := sc_reckoned.nd
  have G_worth_of : FnOk P w K mg base CX0 5 _ _ _ _ := ok_worth_of T
  have G_least_multiple : FnOk P w K mg base CX0 1 _ _ _ _ := ok_least_multiple T
  have G_is_won : FnOk P w K mg base CX0 3 _ _ _ _ := ok_is_won T
  refine T.d_reckoned.fn.ok sc_reckoned (fun vs H Q E h => ?_) (fun cdv A outer s H vs Q E hr h => ?_)
  · obtain ⟨a, l, t, en, p, rfl, _⟩ := h
    rfl
  · obtain ⟨a, l, t, en, p, rfl, G, ht, po, k⟩ := h
    try dsimp only at k
    have G0 := G
    obtain ⟨⟨dx, h1⟩, hl⟩ := G
    have hr_worth_of := hr
    have hr_least_multiple := hr.mono (show 1 ≤ 5 by decide)
    have hr_is_won := hr.mono (show 3 ≤ 5 by decide)
    refine ⟨_, (pss_cons (ps_if (pt_cmp (pc_eqI (pe_fld (pv 0) rfl) (pe_gint rfl T.c_NOBODY))) (pss_one (ps_ret pe_int)) pss_nil)
      (pss_cons (ps_set (i := 1) nd rfl (Or.inl rfl) (pe_def T.d_worth_of G_worth_of hr_worth_of rfl (pa_cons (pv 0) pa_nil)))
      (pss_cons (ps_if (pt_cmp (pc_lt (pv 1) (pe_fld (pv 0) rfl))) (pss_one (ps_ret (pe_op op_mul (pe_un un_neg pe_int) (pe_def T.d_least_multiple G_least_multiple hr_least_multiple rfl (pa_cons (pe_ix ix_tup (pe_gseq rfl T.c_BASES) (pe_fld (pv 0) rfl) (fun _ _ => rfl)) (pa_cons (pe_fld (pv 0) rfl) pa_nil)))))) pss_nil)
      (pss_cons (ps_if (pt_val (pe_def T.d_is_won G_is_won hr_is_won rfl (pa_cons (pv 0) pa_nil))) (pss_one (ps_ret (pv 1))) pss_nil)
      (pss_one (ps_ret (pe_op op_mul (pe_un un_neg pe_int) (pv 1)))))))), ?_⟩
    unfold Tc.mReck at k
    refine ⟨_, rfl, rd_fld (i := 6) h1 T.k_Game.cl (T.k_Game.no 6 _ rfl) nd_Game rfl rfl ⟨_, _, rfl, rfl, _, rfl, itD (fun h3 => ?_) (fun h3 => ?_)⟩⟩
    · rw [if_pos h3] at k
      exact k H fun _ _ z => z
    rw [if_neg h3] at k
    obtain ⟨d, po⟩ := po.resolve_left h3
    have ev : optV p.declared = V.int (d : Int) := by rw [po.game]; rfl
    have eg : p.declared.getD 0 = (d : Int) := by rw [po.game]; rfl
    refine ⟨_, rfl, a, l, t, en, p, rfl, G0, ht, ⟨d, po⟩, fun H1 s1 => ?_⟩
    have h1' := s1 _ _ h1
    refine ⟨_, rfl, _, rfl, rd_fld (i := 5) h1' T.k_Game.cl (T.k_Game.no 5 _ rfl) nd_Game rfl rfl ⟨_, _, rfl, rfl, _, rfl, itD (fun hb => ?_) (fun hb => ?_)⟩⟩
    · rw [if_pos hb] at k
      obtain ⟨bv, hbv, eb, b0, b1⟩ : ∃ bv : Int, (Tc.bases.map V.int)[d]? = some (V.int bv) ∧ Tc.bases.getD d 0 = bv ∧ 0 < bv ∧ bv < 1000 := by
        have : d = 0 ∨ d = 1 ∨ d = 2 ∨ d = 3 ∨ d = 4 ∨ d = 5 := by have := po.d6; omega
        rcases this with z | z | z | z | z | z <;> subst z <;> exact ⟨_, rfl, rfl, by decide, by decide⟩
      rw [eg, Int.toNat_natCast, eb] at k
      refine ⟨_, rfl, fun b hbs => ⟨_, rfl, rd_fld (i := 9) h1' T.k_Game.cl (T.k_Game.no 9 _ rfl) nd_Game rfl rfl ?_⟩⟩
      rw [ev]
      exact ⟨b, _, _, _, rfl, rfl, hbs _, atI_in (j := d) rfl hbv, _, rfl, rd_fld (i := 5) h1' T.k_Game.cl (T.k_Game.no 5 _ rfl) nd_Game rfl rfl ⟨bv, p.bid, rfl, b0, b1, _, _, rfl, rfl, .inl ⟨by decide, by decide⟩, k H1 s1⟩⟩
    rw [if_neg hb] at k
    refine ⟨_, rfl, a, l, t, en, p, rfl, G0.same s1, s1 _ _ ht, ⟨d, po⟩, fun H2 s2 => ⟨_, rfl, ?_⟩⟩
    cases hw : Tc.mWon p (p.declared.getD 0) with
    | true =>
      rw [if_pos hw] at k
      exact iteT ⟨_, rfl, k H2 (s1.trans s2)⟩
    | false =>
      rw [if_neg (by rw [hw]; decide)] at k
      exact iteF ⟨_, rfl, _, rfl, _, _, rfl, rfl, .inl ⟨by decide, by decide⟩, k H2 (s1.trans s2)⟩
theorem ok_result (T : Txt K mg) : FnOk P w K mg base CX0 7 T.d_result.f T.d_result.fd ["game"] (spLs T.k_Game.C (fun p => p.phase = 7 → p.alone = 3 ∨ ∃ d : Nat, RkOk p d) Tc.mResult) := by
  have nd := sc_result.nd
  have G_reckoned : FnOk P w K mg base CX0 6 _ _ _ _ := ok_reckoned T
  refine T.d_result.fn.ok sc_result (fun vs H Q E h => ?_) (fun cdv A outer s H vs Q E hr h => ?_)
  · obtain ⟨a, l, t, en, p, rfl, _⟩ := h
    rfl
  · obtain ⟨a, l, t, en, p, rfl, G, ht, po, k⟩ := h
    try dsimp only at k
    have G0 := G
    obtain ⟨⟨dx, h1⟩, hl⟩ := G
    have hr_reckoned := hr
    refine ⟨_, (pss_cons (ps_if (pt_cmp (pc_neI (pe_fld (pv 0) rfl) (pe_gint rfl T.c_OVER))) (pss_one (ps_ret (pe_lst (pa_cons (pe_gint rfl T.c_REFUSED) pa_nil)))) pss_nil)
      (pss_cons (ps_set (i := 1) nd rfl (Or.inl rfl) (pe_def T.d_reckoned G_reckoned hr_reckoned rfl (pa_cons (pv 0) pa_nil)))
      (pss_one (ps_ret (pe_lst (pa_cons (pe_gint rfl T.c_DONE) (pa_cons (pe_callB call_abs (by rfl) T.nAbs PyProof.Rows.boot_abs (pa_cons (pv 1) pa_nil)) (pa_cons (pe_ifExp (pt_cmp (pc_lt (pv 1) pe_int)) pe_int pe_int) pa_nil)))))))), ?_⟩
    unfold Tc.mResult at k
    refine ⟨_, rfl, rd_fld (i := 2) h1 T.k_Game.cl (T.k_Game.no 2 _ rfl) nd_Game rfl rfl ⟨_, _, rfl, rfl, _, rfl, itN (fun hc => ?_) (fun hc => ?_)⟩⟩
    · rw [if_pos hc] at k
      exact ⟨(by show 1 ≤ sizeLine; decide), fun q fq => k q _ upd_same fq (Same.upd fq)⟩
    rw [if_neg (fun z => z hc)] at k
    refine ⟨_, rfl, a, l, t, en, p, rfl, G0, ht, po hc, fun H1 s1 => ?_⟩
    refine ⟨_, rfl, _, rfl, _, rfl, _, _, rfl, rfl, _, rfl, itD (fun hn => ?_) (fun hn => ?_)⟩
    · refine ⟨(by show 3 ≤ sizeLine; decide), fun q fq => k q _ ?_ (s1.free fq) (s1.trans (Same.upd fq))⟩
      rw [upd_same, if_pos hn, if_pos hn]
      rfl
    · refine ⟨(by show 3 ≤ sizeLine; decide), fun q fq => k q _ ?_ (s1.free fq) (s1.trans (Same.upd fq))⟩
      rw [upd_same, if_neg hn, if_neg hn]
      rfl
end
end Prog
namespace Prog
open PySem L2
/-! ### endings -/
def bkey (lf lead : Nat) : List Key := [.inl (lf : Int), .inl (lead : Int)]
/-- the bounds that are kept -/
structure BOk (H : Hp) (F : List Addr) (d al : Nat) (h0 : List Nat) (L : Nat) (kvs : List (List Key × V)) : Prop where
  nd : (kvs.map (·.1)).Nodup
  each : ∀ kv, kv ∈ kvs → ∃ (lf lead : Nat) (b : Addr) (fl rf : Int), kv = (bkey lf lead, .ref b) ∧ (lf, lead) ∈ Tc.keysOf L ∧ H b = some (.tup [.int fl, .int rf]) ∧ b ∉ F ∧ Tc.Sound d al h0 lf lead fl rf
theorem bkey_inj {a b c d : Nat} (h : bkey a b = bkey c d) : a = c ∧ b = d := by
  unfold bkey at h
  simp only [List.cons.injEq, Sum.inl.injEq, and_true] at h
  omega
theorem BOk.len {H : Hp} {F : List Addr} {d al : Nat} {h0 : List Nat} {L : Nat} {kvs : List (List Key × V)} (B : BOk H F d al h0 L kvs) (hL : (Tc.mCards L).length ≤ 15) : kvs.length < sizeLine := by
  have h : (kvs.map (·.1)).length ≤ ((Tc.keysOf L).map fun x => bkey x.1 x.2).length := Tc.nodup_len B.nd fun k hk => by
    obtain ⟨kv, hkv, rfl⟩ := List.mem_map.mp hk
    obtain ⟨lf, lead, b, fl, rf, e, hm, _⟩ := B.each kv hkv
    exact List.mem_map.mpr ⟨(lf, lead), hm, by rw [e]⟩
  rw [List.length_map, List.length_map] at h
  have h2 := Tc.keysOf_len L hL
  have sl : (98304 : Nat) < sizeLine := by decide
  omega
theorem valV_mem {kvs : List (List Key × V)} {k : List Key} {v : V} (h : valV kvs k = some v) : (k, v) ∈ kvs := by
  unfold valV at h
  cases e : kvs.find? (fun kv => decide (kv.1 = k)) with
  | none => rw [e] at h; cases h
  | some kv =>
    rw [e] at h
    have h1 := List.mem_of_find?_eq_some e
    have h2 := List.find?_some e
    have h3 : kv.2 = v := Option.some.inj h
    have h4 : kv.1 = k := of_decide_eq_true h2
    rw [← h3, ← h4]
    exact h1
theorem putK_keys (kvs : List (List Key × V)) (k : List Key) (v : V) : (putK kvs k v).map (·.1) = if (kvs.any fun kv => decide (kv.1 = k)) = true then kvs.map (·.1) else kvs.map (·.1) ++ [k] := by
  unfold putK
  split
  · rw [List.map_map]
    refine List.map_congr_left fun kv _ => ?_
    show (if kv.1 = k then (kv.1, v) else kv).1 = kv.1
    split <;> rfl
  · rw [List.map_append]
    rfl
theorem putK_mem {kvs : List (List Key × V)} {k : List Key} {v : V} {kv : List Key × V} (h : kv ∈ putK kvs k v) : kv = (k, v) ∨ kv ∈ kvs := by
  unfold putK at h
  split at h
  · obtain ⟨x, hx, e⟩ := List.mem_map.mp h
    split at e
    · rename_i q
      exact .inl (by rw [← e, q])
    · exact .inr (by rw [← e]; exact hx)
  · rcases List.mem_append.mp h with z | z
    · exact .inr z
    · exact .inl (by simpa using z)
theorem BOk.put {H : Hp} {F : List Addr} {d al : Nat} {h0 : List Nat} {L : Nat} {kvs : List (List Key × V)} (B : BOk H F d al h0 L kvs) {lf lead : Nat} {b : Addr} {fl rf : Int} (hm : (lf, lead) ∈ Tc.keysOf L) (hb : H b = some (.tup [.int fl, .int rf])) (nb : b ∉ F) (S : Tc.Sound d al h0 lf lead fl rf) : BOk H F d al h0 L (putK kvs (bkey lf lead) (.ref b)) := by
  refine ⟨?_, fun kv hkv => ?_⟩
  · rw [putK_keys]
    split
    · exact B.nd
    · rename_i q
      refine List.nodup_append.mpr ⟨B.nd, by simp, fun x hx y hy e => q ?_⟩
      simp at hy
      obtain ⟨kv, hkv, e1⟩ := List.mem_map.mp hx
      exact List.any_eq_true.mpr ⟨kv, hkv, decide_eq_true (by rw [e1, e, hy])⟩
  · rcases putK_mem hkv with z | z
    · exact ⟨lf, lead, b, fl, rf, z, hm, hb, nb, S⟩
    · exact B.each kv z
theorem BOk.keep {H H' : Hp} {F : List Addr} {d al : Nat} {h0 : List Nat} {L : Nat} {kvs : List (List Key × V)} (B : BOk H F d al h0 L kvs) (kp : ∀ b xs, H b = some (.tup xs) → b ∉ F → H' b = some (.tup xs)) : BOk H' F d al h0 L kvs :=
  ⟨B.nd, fun kv hkv => let ⟨lf, lead, b, fl, rf, e, hm, hb, nb, S⟩ := B.each kv hkv; ⟨lf, lead, b, fl, rf, e, hm, kp b _ hb nb, nb, S⟩⟩
def follows (d : Nat) : List V := (List.range 32).map fun (c : Nat) => V.int ((Tc.mSetOf (Tc.mFollowers (d : Nat) (c : Nat)) : Nat) : Int)
theorem follows_get {d c : Nat} (h : c < 32) : (follows d)[c]? = some (V.int ((Tc.mSetOf (Tc.mFollowers (d : Nat) (c : Nat)) : Nat) : Int)) := by
  unfold follows
  rw [List.getElem?_map, List.getElem?_range h]
  rfl
section
variable {P : Program} {w : World} {K : PySem.W.Frag} {mg : Str → Option Value} {base : Heap}
/-- the ending at e, its bounds at eb; none of it at the places F -/
structure EndAt (T : Txt K mg) (F : List Addr) (H : Hp) (e eb : Addr) (d al : Nat) (h0 : List Nat) (L : Nat) : Prop where
  obj : ∃ (dx eh ef es : Addr) (sa : List Addr), H e = some (.ins T.k_Ending.C dx (ks_Ending.zip [.bl (decide (d = 5)), .int (al : Int), .ref eh, .ref ef, .ref es, .int (Tc.mostOf d), .ref eb])) ∧ H eh = some (.lst ((ic h0).map V.int)) ∧ H ef = some (.lst (follows d)) ∧
    H es = some (.lst (sa.map V.ref)) ∧ sa.length = 32 ∧ (∀ (c : Nat) (b : Addr), sa[c]? = some b → H b = some (.lst ((Tc.mStr (d : Nat) (c : Nat)).map V.int)) ∧ b ∉ F) ∧ eh ∉ F ∧ ef ∉ F ∧ es ∉ F
  dict : ∃ kvs, H eb = some (.dT kvs) ∧ BOk H F d al h0 L kvs
  eF : e ∉ F
  bF : eb ∉ F
  three : h0.length = 3
  d6 : d < 6
  al3 : al < 3
  L15 : (Tc.mCards L).length ≤ 15
  L32 : L < 2 ^ 32
variable {T : Txt K mg} {F : List Addr} {H H' : Hp} {e eb : Addr} {d al : Nat} {h0 : List Nat} {L : Nat}
theorem EndAt.step (E : EndAt T F H e eb d al h0 L) (kp : ∀ b o, H b = some o → b ∉ F → b ≠ eb → H' b = some o) (hd : ∃ kvs, H' eb = some (.dT kvs) ∧ BOk H' F d al h0 L kvs) : EndAt T F H' e eb d al h0 L := by
  obtain ⟨⟨dx, eh, ef, es, sa, h1, h2, h3, h4, h5, h6, h7, h8, h9⟩, ⟨kvs, k1, k2⟩, q1, q2, q3, q4, q5, q6, q7⟩ := E
  refine ⟨⟨dx, eh, ef, es, sa, kp _ _ h1 q1 (ne_of h1 k1 (by intro z; cases z)), kp _ _ h2 h7 (ne_of h2 k1 (by intro z; cases z)), kp _ _ h3 h8 (ne_of h3 k1 (by intro z; cases z)), kp _ _ h4 h9 (ne_of h4 k1 (by intro z; cases z)), h5, fun c b hb => ?_, h7, h8, h9⟩, hd, q1, q2, q3, q4, q5, q6, q7⟩
  obtain ⟨x, y⟩ := h6 c b hb
  exact ⟨kp _ _ x y (ne_of x k1 (by intro z; cases z)), y⟩
theorem EndAt.frame (E : EndAt T F H e eb d al h0 L) (kp : ∀ b o, H b = some o → b ∉ F → H' b = some o) : EndAt T F H' e eb d al h0 L := by
  refine E.step (fun b o x y _ => kp b o x y) ?_
  obtain ⟨kvs, k1, k2⟩ := E.dict
  exact ⟨kvs, kp _ _ k1 E.bF, k2.keep fun b xs x y => kp _ _ x y⟩
theorem EndAt.same (E : EndAt T F H e eb d al h0 L) (s : Same H H') : EndAt T F H' e eb d al h0 L := E.frame fun b o x _ => s b o x
theorem EndAt.places (E : EndAt T F H e eb d al h0 L) {F' : List Addr} (h : ∀ b, b ∈ F' → b ∈ F ∨ H b = none) : EndAt T F' H e eb d al h0 L := by
  have no : ∀ {b : Addr} {o : HO}, H b = some o → b ∉ F → b ∉ F' := fun {b o} x y z => by
    rcases h b z with q | q
    · exact y q
    · rw [q] at x; cases x
  obtain ⟨⟨dx, eh, ef, es, sa, h1, h2, h3, h4, h5, h6, h7, h8, h9⟩, ⟨kvs, k1, k2⟩, q1, q2, q3, q4, q5, q6, q7⟩ := E
  refine ⟨⟨dx, eh, ef, es, sa, h1, h2, h3, h4, h5, fun c b hb => ?_, no h2 h7, no h3 h8, no h4 h9⟩, ⟨kvs, k1, k2.nd, fun kv hkv => ?_⟩, no h1 q1, no k1 q2, q3, q4, q5, q6, q7⟩
  · obtain ⟨x, y⟩ := h6 c b hb
    exact ⟨x, no x y⟩
  · obtain ⟨lf, lead, b, fl, rf, z, hm, hb, nb, S⟩ := k2.each kv hkv
    exact ⟨lf, lead, b, fl, rf, z, hm, hb, no hb nb, S⟩
def Kp (eb : Addr) (H H' : Hp) : Prop := ∀ b o, H b = some o → b ≠ eb → H' b = some o
theorem Kp.refl {eb : Addr} {H : Hp} : Kp eb H H := fun _ _ h _ => h
theorem Kp.trans {eb : Addr} {H H1 H2 : Hp} (a : Kp eb H H1) (b : Kp eb H1 H2) : Kp eb H H2 := fun x o h n => b x o (a x o h n) n
theorem Kp.of {eb : Addr} {H H1 : Hp} (a : Same H H1) : Kp eb H H1 := fun x o h _ => a x o h
end
/-! promises -/
section
variable {P : Program} {w : World} {K : PySem.W.Frag} {mg : Str → Option Value} {base : Heap}
def spHere (T : Txt K mg) : Sp := fun vs H Q _ => ∃ (F : List Addr) (e eb : Addr) (d al : Nat) (h0 : List Nat) (L lf : Nat) (tr : Addr) (ts : List Nat) (who : Nat), vs = [.ref e, .int (lf : Int), .ref tr, .int (who : Int)] ∧ EndAt T F H e eb d al h0 L ∧ H tr = some (.lst ((ic ts).map V.int)) ∧ who < 3 ∧ (∀ c ∈ ts, c < 32) ∧
  Q (.int (Tc.mPlayableIn (d : Nat) (h0.getD who 0 &&& lf) (ic ts) : Nat)) H
def spBest (T : Txt K mg) (n : Nat) : Sp := fun vs H Q _ => ∃ (F : List Addr) (e eb : Addr) (d al : Nat) (h0 : List Nat) (L lf : Nat) (tr : Addr) (ts : List Nat) (who : Nat) (low high val : Int), vs = [.ref e, .int (lf : Int), .ref tr, .int (who : Int), .int low, .int high] ∧ EndAt T F H e eb d al h0 L ∧ H tr = some (.lst ((ic ts).map V.int)) ∧
  low < high ∧ high ≤ Tc.mostOf d ∧ Tc.Node d al h0 L lf ts who val n ∧ (∀ b, b ∈ F → ∃ o, H b = some o) ∧ ∀ r H', Tc.Res low high val r → EndAt T F H' e eb d al h0 L → Kp eb H H' → Q (.int r) H'
def spFrom (T : Txt K mg) (n : Nat) : Sp := fun vs H Q _ => ∃ (F : List Addr) (e eb : Addr) (d al : Nat) (h0 : List Nat) (L lf lead : Nat) (low high val : Int), vs = [.ref e, .int (lf : Int), .int (lead : Int), .int low, .int high] ∧ EndAt T F H e eb d al h0 L ∧
  low < high ∧ high ≤ Tc.mostOf d ∧ Tc.From d al h0 L lf lead val n ∧ (∀ b, b ∈ F → ∃ o, H b = some o) ∧ ∀ r H', Tc.Res low high val r → EndAt T F H' e eb d al h0 L → Kp eb H H' → Q (.int r) H'
def spAfter (T : Txt K mg) (n : Nat) : Sp := fun vs H Q _ => ∃ (F : List Addr) (e eb : Addr) (d al : Nat) (h0 : List Nat) (L lf : Nat) (tr : Addr) (g : Rc32.Game) (c : Nat) (low high : Int), vs = [.ref e, .int ((lf ^^^ 2 ^ c : Nat) : Int), .ref tr, .int (g.lead : Int), .int low, .int high] ∧ EndAt T F H e eb d al h0 L ∧
  H tr = some (.lst ((ic (g.trick ++ [c])).map V.int)) ∧ low < high ∧ high ≤ Tc.mostOf d ∧ Tc.At d al h0 lf g ∧ g.phase = .playing ∧ c ∈ Tc.may g ∧ (¬ g.trick.length < 2) ∧ Tc.Sub L g ∧ 2 * (Rc32.left g - 1) + 1 ≤ n + 1 ∧ (∀ b, b ∈ F → ∃ o, H b = some o) ∧
  ∀ r H', Tc.Res low high (Tc.toGo g.points (Rc32.left g - 1) (Tc.next g c)) r → EndAt T F H' e eb d al h0 L → Kp eb H H' → Q (.int r) H'
theorem ok_playable_here (T : Txt K mg) : FnOk P w K mg base CX0 2 T.d_playable_here.f T.d_playable_here.fd ["ending", "left", "trick", "who"] (spHere T) := by
  have nd := sc_playable_here.nd
  have G_playable : FnOk P w K mg base CX0 1 _ _ _ _ := ok_playable T
  refine T.d_playable_here.fn.ok sc_playable_here (fun vs H Q E h => ?_) (fun cdv A outer s H vs Q E hr h => ?_)
  · obtain ⟨F, e, eb, d, al, h0, L, lf, tr, ts, who, rfl, _⟩ := h
    rfl
  · obtain ⟨F, e, eb, d, al, h0, L, lf, tr, ts, who, rfl, EA, htr, w3, t32, k⟩ := h
    have hr_playable := hr
    obtain ⟨⟨dx, eh, ef, es, sa, he, heh, hef, hes, s32, hsa, _, _, _⟩, _, _, _, three, d6, _, _, _⟩ := EA
    have hj : who < h0.length := by rw [three]; exact w3
    have eg : ((ic h0).map V.int)[who]? = some (V.int ((h0.getD who 0 : Nat) : Int)) := by
      unfold ic
      rw [List.getElem?_map, List.getElem?_map, List.getD_eq_getElem?_getD, List.getElem?_eq_getElem hj]
      rfl
    refine ⟨_, (pss_cons (ps_set (i := 4) nd rfl (Or.inl rfl) (pe_op op_and (pe_ix ix_list (pe_fld (pv 0) rfl) (pv 3) (fun _ _ => rfl)) (pv 1)))
      (pss_cons (ps_if (pt_cmp (pc_eqI (pe_callB call_len_seq (by rfl) T.nLen PySem.boot_len (pa_cons (pv 2) pa_nil)) pe_int)) (pss_one (ps_ret (pv 4))) pss_nil)
      (pss_one (ps_ret (pe_def T.d_playable G_playable hr_playable rfl (pa_cons (pv 4) (pa_cons (pe_ix ix_list (pe_fld (pv 0) rfl) (pe_ix ix_list (pv 2) pe_int (fun _ _ => rfl)) (fun _ _ => rfl)) pa_nil))))))), ?_⟩
    refine ⟨_, rfl, rd_fld (i := 2) he T.k_Ending.cl (T.k_Ending.no 2 _ rfl) nd_Ending rfl rfl ⟨_, rfl, eh, _, _, _, rfl, rfl, SqL.of heh, atI_in (j := who) rfl eg, _, rfl, _, _, rfl, rfl, ?_⟩⟩
    dsimp only
    rw [band]
    refine ⟨_, rfl, tr, _, rfl, .inl (SqL.of htr), _, _, rfl, rfl, _, rfl, itD (fun hz => ?_) (fun hz => ?_)⟩
    · rw [ic_len] at hz
      have e0 : ts = [] := List.length_eq_zero_iff.mp (by omega)
      subst e0
      exact ⟨_, rfl, k⟩
    · rw [ic_len] at hz
      cases ts with
      | nil => simp at hz
      | cons t0 rest =>
        have t0lt := t32 t0 (List.mem_cons_self ..)
        refine ⟨_, rfl, _, rfl, rd_fld (i := 3) he T.k_Ending.cl (T.k_Ending.no 3 _ rfl) nd_Ending rfl rfl ⟨_, rfl, tr, _, _, _, rfl, rfl, SqL.of htr, atI_in (j := 0) rfl rfl, ef, _, _, _, rfl, rfl, SqL.of hef, atI_in (j := t0) rfl (follows_get t0lt), ?_⟩⟩
        exact ⟨_, _, rfl, k⟩

def lv : Nat → Nat
  | 0 => 10
  | n + 1 => lv n + 3
theorem lv_ge (n : Nat) : 10 ≤ lv n := by
  induction n with
  | zero => exact Nat.le_refl _
  | succ n ih => show 10 ≤ lv n + 3; omega
theorem key_in {d al lf L lead : Nat} {h0 : List Nat} {g : Rc32.Game} (A : Tc.At d al h0 lf g) (sub : Tc.Sub L g) (hL : L < 2 ^ 32) (hl : lead < 3) : (lf, lead) ∈ Tc.keysOf L := by
  refine Tc.keysOf_mem hL (fun c hc => sub c ?_) hl
  rw [A.left] at hc
  exact (A.wf.base.flat.mem_iff c).mp hc
theorem ok_best_from (T : Txt K mg) (n : Nat) (G_best_in_trick : FnOk P w K mg base CX0 (lv n) T.d_best_in_trick.f T.d_best_in_trick.fd ["ending", "left", "trick", "who", "low", "high"] (spBest T n)) :
    FnOk P w K mg base CX0 (lv n + 1) T.d_best_from.f T.d_best_from.fd ["ending", "left", "leader", "low", "high"] (spFrom T n) := by
  have nd := sc_best_from.nd
  refine T.d_best_from.fn.ok sc_best_from (fun vs H Q E h => ?_) (fun cdv A outer s H vs Q E hr h => ?_)
  · obtain ⟨F, e, eb, d, al, h0, L, lf, lead, low, high, val, rfl, _⟩ := h
    rfl
  · obtain ⟨F, e, eb, d, al, h0, L, lf, lead, low, high, val, rfl, EA, lh, hm, fr, hF, k⟩ := h
    have hr_best_in_trick := hr
    have EA0 := EA
    obtain ⟨⟨dx, eh, ef, es, sa, he, heh, hef, hes, s32, hsa, _, _, _⟩, ⟨kvs, hd, B⟩, _, _, three, d6, _, L15, L32⟩ := EA
    cases fr with
    | go AA ht hp sub hn =>
    rename_i g
    refine ⟨_, (pss_cons (ps_if (pt_cmp (pc_eqI (pv 1) pe_int)) (pss_one (ps_ret (pe_ifExp (pt_val (pe_fld (pv 0) rfl)) pe_int pe_int))) pss_nil)
      (pss_cons (ps_set (i := 5) nd rfl (Or.inl rfl) (pe_dget2 (hu_of hr) (pe_fld (pv 0) rfl) (pe_tup (pa_cons (pv 1) (pa_cons (pv 2) pa_nil))) (pe_tup (pa_cons pe_int (pa_cons (pe_fld (pv 0) rfl) pa_nil))) ⟨rfl, rfl, rfl, rfl⟩))
      (pss_cons (ps_set (i := 6) nd rfl (Or.inl rfl) (pe_ix ix_tup (pv 5) pe_int (fun _ _ => rfl)))
      (pss_cons (ps_set (i := 7) nd rfl (Or.inl rfl) (pe_ix ix_tup (pv 5) pe_int (fun _ _ => rfl)))
      (pss_cons (ps_if (PW.pt (pw_or (pt_cmp (pc_ge (pv 6) (pv 4))) (pw_or1 (pt_cmp (pc_eqI (pv 6) (pv 7)))))) (pss_one (ps_ret (pv 6))) pss_nil)
      (pss_cons (ps_if (pt_cmp (pc_le (pv 7) (pv 3))) (pss_one (ps_ret (pv 7))) pss_nil)
      (pss_cons (ps_set (i := 8) nd rfl (Or.inl rfl) (pe_def T.d_best_in_trick G_best_in_trick hr_best_in_trick rfl (pa_cons (pv 0) (pa_cons (pv 1) (pa_cons (pe_lst pa_nil) (pa_cons (pv 2) (pa_cons (pv 3) (pa_cons (pv 4) pa_nil))))))))
      (pss_cons (ps_if (pt_cmp (pc_gt (pv 8) (pv 3))) (pss_one (ps_set (i := 6) nd rfl (Or.inl rfl) (pv 8))) pss_nil)
      (pss_cons (ps_if (pt_cmp (pc_lt (pv 8) (pv 4))) (pss_one (ps_set (i := 7) nd rfl (Or.inl rfl) (pv 8))) pss_nil)
      (pss_cons (ps_dput (hu_of hr) (pe_fld (pv 0) rfl) (pe_tup (pa_cons (pv 1) (pa_cons (pv 2) pa_nil))) (pe_tup (pa_cons (pv 6) (pa_cons (pv 7) pa_nil))) rfl)
      (pss_one (ps_ret (pv 8))))))))))))), ?_⟩
    refine ⟨_, rfl, _, _, rfl, rfl, _, rfl, itD (fun hz => ?_) (fun hz => ?_)⟩
    · have l0 : Rc32.left g = 0 := (Tc.at_zero AA).mp (by omega)
      rcases hp with hp | ⟨_, hov, h5⟩
      · have := Tc.left_pos AA.wf hp
        omega
      · have ev := Tc.toGo_over hov (fun z => h5 (AA.game.symm.trans z))
        rw [AA.game] at ev
        rw [ev] at k
        refine ⟨_, rfl, rd_fld (i := 0) he T.k_Ending.cl (T.k_Ending.no 0 _ rfl) nd_Ending rfl rfl ⟨_, rfl, itD (fun q => ?_) (fun q => ?_)⟩⟩
        · rw [if_pos q] at k
          exact k 1 H Tc.Res.exact EA0 Kp.refl
        · rw [if_neg q] at k
          exact k 0 H Tc.Res.exact EA0 Kp.refl
    have hp' : g.phase = .playing := by
      rcases hp with hp | ⟨l0, _, _⟩
      · exact hp
      · exact absurd ((Tc.at_zero AA).mpr l0) (by omega)
    obtain ⟨_, pl⟩ := AA.wf.playing hp'
    -- bounds = ending.bounds.get((left, leader), (0, ending.most))
    refine ⟨_, rfl, rd_fld (i := 6) he T.k_Ending.cl (T.k_Ending.no 6 _ rfl) nd_Ending rfl rfl ⟨eb, rfl, .inr ⟨kvs, .inl hd⟩, _, rfl, _, rfl, (by show 2 ≤ sizeLine; decide), fun kt fk => ?_⟩⟩
    refine ⟨_, rfl, rd_fld (i := 5) (Same.upd fk _ _ he) T.k_Ending.cl (T.k_Ending.no 5 _ rfl) nd_Ending rfl rfl ⟨(by show 2 ≤ sizeLine; decide), fun dt fd => ?_⟩⟩
    have s1 : Same H (upd H kt (.tup [.int (lf : Int), .int (g.lead : Int)])) := Same.upd fk
    have s2 := s1.trans (Same.upd (o := .tup [.int 0, .int (Tc.mostOf d)]) fd)
    have hkt : upd (upd H kt (.tup [.int (lf : Int), .int (g.lead : Int)])) dt (.tup [.int 0, .int (Tc.mostOf d)]) kt = some (.tup ((bkey lf g.lead).map kV)) := (Same.upd (o := .tup [.int 0, .int (Tc.mostOf d)]) fd) _ _ upd_same
    refine ⟨_, DGet.t (s2 _ _ hd) hkt, ?_⟩
    obtain ⟨b, fl, rf, eb', hb, Sd⟩ : ∃ (b : Addr) (fl rf : Int), (valV kvs (bkey lf g.lead)).getD (V.ref dt) = V.ref b ∧ upd (upd H kt (.tup [.int (lf : Int), .int (g.lead : Int)])) dt (.tup [.int 0, .int (Tc.mostOf d)]) b = some (.tup [.int fl, .int rf]) ∧ Tc.Sound d al h0 lf g.lead fl rf := by
      cases q : valV kvs (bkey lf g.lead) with
      | none => exact ⟨dt, 0, Tc.mostOf d, rfl, upd_same, Tc.sound_none⟩
      | some v =>
        obtain ⟨lf2, lead2, b, fl, rf, z, _, hb, _, S⟩ := B.each _ (valV_mem q)
        have z1 := congrArg Prod.fst z
        have z2 := congrArg Prod.snd z
        obtain ⟨rfl, rfl⟩ := bkey_inj z1
        exact ⟨b, fl, rf, z2, s2 _ _ hb, S⟩
    rw [eb']
    have use := Tc.sound_use Sd AA hp' ht rfl lh hm
    refine ⟨_, rfl, b, _, _, _, rfl, rfl, SqT.of hb, atI_in (j := 0) rfl rfl, ?_⟩
    refine ⟨_, rfl, b, _, _, _, rfl, rfl, SqT.of hb, atI_in (j := 1) rfl rfl, ?_⟩
    -- if floor >= high or floor == roof
    refine ⟨_, rfl, _, rfl, _, _, rfl, rfl, _, rfl, itD (fun c1 => ?_) (fun c1 => ?_)⟩
    · exact iteT ⟨_, rfl, k fl _ (use.1 (.inl c1)) (EA0.same s2) (Kp.of s2)⟩
    refine ⟨_, rfl, _, rfl, _, _, rfl, rfl, _, rfl, itD (fun c2 => ?_) (fun c2 => ?_)⟩
    · exact ⟨_, rfl, k fl _ (use.1 (.inr c2)) (EA0.same s2) (Kp.of s2)⟩
    -- if roof <= low
    refine ⟨_, rfl, _, rfl, _, _, rfl, rfl, _, rfl, itD (fun c3 => ?_) (fun c3 => ?_)⟩
    · exact ⟨_, rfl, k rf _ (use.2 c3) (EA0.same s2) (Kp.of s2)⟩
    -- best = best_in_trick(ending, left, [], leader, low, high)
    refine ⟨_, rfl, _, rfl, (by show 0 ≤ sizeLine; decide), fun tr ft => ⟨_, rfl, _, rfl, _, rfl, ?_⟩⟩
    have s3 := s2.trans (Same.upd (o := .lst []) ft)
    have nd0 : Tc.Node d al h0 L lf [] g.lead (Tc.toGo g.points (Rc32.left g) g) n := by
      have := Tc.Node.mid (n := n) AA hp' sub hn
      have e2 : Rc32.turn g = g.lead := by
        rw [Tc.turn_playing hp', ht]
        have := pl.lead
        simp
        omega
      rw [ht, e2] at this
      exact this
    refine ⟨F, e, eb, d, al, h0, L, lf, tr, [], g.lead, low, high, _, rfl, EA0.same s3, upd_same, lh, hm, nd0, (fun b hb => let ⟨o, ho⟩ := hF b hb; ⟨o, s3 _ _ ho⟩), fun best H4 res EA4 kp4 => ?_⟩
    have kp := (Kp.of (eb := eb) s3).trans kp4
    have EA5 := EA4
    obtain ⟨⟨dx4, eh4, ef4, es4, sa4, he4, _⟩, ⟨kvs4, hd4, B4⟩, _⟩ := EA4
    have Sp := Tc.sound_put Sd AA hp' ht rfl res
    have hm4 := key_in AA sub L32 pl.lead
    have noF : ∀ {x : Addr} {HX : Hp}, (∀ b o, H b = some o → b ≠ eb → HX b = some o) → HX x = none → x ∉ F := fun {x HX} kx fx z => by
      obtain ⟨o, ho⟩ := hF x z
      have ne : x ≠ eb := fun q => EA0.bF (by rw [← q]; exact z)
      rw [kx x o ho ne] at fx
      cases fx
    refine ⟨_, rfl, _, rfl, _, _, rfl, rfl, _, rfl, itD (fun g1 => ⟨_, rfl, ?_⟩) (fun g1 => ?_)⟩
    · rw [if_pos g1] at Sp
      refine ⟨_, rfl, _, rfl, _, _, rfl, rfl, _, rfl, itD (fun g2 => ⟨_, rfl, ?_⟩) (fun g2 => ?_)⟩
      · rw [if_pos g2] at Sp
        -- ending.bounds[(left, leader)] = (floor, roof)
        refine ⟨_, rfl, _, rfl, (by show 2 ≤ sizeLine; decide), fun vt fv => ?_⟩
        refine ⟨_, rfl, rd_fld (i := 6) (Same.upd fv _ _ he4) T.k_Ending.cl (T.k_Ending.no 6 _ rfl) nd_Ending rfl rfl ⟨_, rfl, _, rfl, (by show 2 ≤ sizeLine; decide), fun kt2 fk2 => ?_⟩⟩
        have s5 := Same.upd (o := .tup [.int (lf : Int), .int (g.lead : Int)]) fk2
        have hd5 := s5 _ _ (Same.upd fv _ _ hd4)
        have hv5 := s5 _ _ (show upd H4 vt _ vt = some _ from upd_same)
        refine ⟨eb, _, rfl, DPut.t (k := bkey lf g.lead) hd5 upd_same (B4.len L15), ?_⟩
        have s45 : Same H4 _ := (Same.upd fv).trans s5
        have vF : vt ∉ F := noF kp fv
        refine ⟨_, rfl, k best _ res (EA5.step (fun b o x _ z => by rw [upd_ne z]; exact s45 _ _ x) ⟨_, upd_same, ?_⟩) fun b o x z => by rw [upd_ne z]; exact s45 _ _ (kp _ _ x z)⟩
        refine ((B4.keep fun b xs x _ => s45 _ _ x).put hm4 hv5 vF Sp).keep fun b xs x _ => ?_
        rw [upd_ne (ne_of x hd5 (by intro z; cases z))]
        exact x
      · rw [if_neg g2] at Sp
        -- ending.bounds[(left, leader)] = (floor, roof)
        refine ⟨_, rfl, _, rfl, (by show 2 ≤ sizeLine; decide), fun vt fv => ?_⟩
        refine ⟨_, rfl, rd_fld (i := 6) (Same.upd fv _ _ he4) T.k_Ending.cl (T.k_Ending.no 6 _ rfl) nd_Ending rfl rfl ⟨_, rfl, _, rfl, (by show 2 ≤ sizeLine; decide), fun kt2 fk2 => ?_⟩⟩
        have s5 := Same.upd (o := .tup [.int (lf : Int), .int (g.lead : Int)]) fk2
        have hd5 := s5 _ _ (Same.upd fv _ _ hd4)
        have hv5 := s5 _ _ (show upd H4 vt _ vt = some _ from upd_same)
        refine ⟨eb, _, rfl, DPut.t (k := bkey lf g.lead) hd5 upd_same (B4.len L15), ?_⟩
        have s45 : Same H4 _ := (Same.upd fv).trans s5
        have vF : vt ∉ F := noF kp fv
        refine ⟨_, rfl, k best _ res (EA5.step (fun b o x _ z => by rw [upd_ne z]; exact s45 _ _ x) ⟨_, upd_same, ?_⟩) fun b o x z => by rw [upd_ne z]; exact s45 _ _ (kp _ _ x z)⟩
        refine ((B4.keep fun b xs x _ => s45 _ _ x).put hm4 hv5 vF Sp).keep fun b xs x _ => ?_
        rw [upd_ne (ne_of x hd5 (by intro z; cases z))]
        exact x
    · rw [if_neg g1] at Sp
      refine ⟨_, rfl, _, rfl, _, _, rfl, rfl, _, rfl, itD (fun g2 => ⟨_, rfl, ?_⟩) (fun g2 => ?_)⟩
      · rw [if_pos g2] at Sp
        -- ending.bounds[(left, leader)] = (floor, roof)
        refine ⟨_, rfl, _, rfl, (by show 2 ≤ sizeLine; decide), fun vt fv => ?_⟩
        refine ⟨_, rfl, rd_fld (i := 6) (Same.upd fv _ _ he4) T.k_Ending.cl (T.k_Ending.no 6 _ rfl) nd_Ending rfl rfl ⟨_, rfl, _, rfl, (by show 2 ≤ sizeLine; decide), fun kt2 fk2 => ?_⟩⟩
        have s5 := Same.upd (o := .tup [.int (lf : Int), .int (g.lead : Int)]) fk2
        have hd5 := s5 _ _ (Same.upd fv _ _ hd4)
        have hv5 := s5 _ _ (show upd H4 vt _ vt = some _ from upd_same)
        refine ⟨eb, _, rfl, DPut.t (k := bkey lf g.lead) hd5 upd_same (B4.len L15), ?_⟩
        have s45 : Same H4 _ := (Same.upd fv).trans s5
        have vF : vt ∉ F := noF kp fv
        refine ⟨_, rfl, k best _ res (EA5.step (fun b o x _ z => by rw [upd_ne z]; exact s45 _ _ x) ⟨_, upd_same, ?_⟩) fun b o x z => by rw [upd_ne z]; exact s45 _ _ (kp _ _ x z)⟩
        refine ((B4.keep fun b xs x _ => s45 _ _ x).put hm4 hv5 vF Sp).keep fun b xs x _ => ?_
        rw [upd_ne (ne_of x hd5 (by intro z; cases z))]
        exact x
      · rw [if_neg g2] at Sp
        -- ending.bounds[(left, leader)] = (floor, roof)
        refine ⟨_, rfl, _, rfl, (by show 2 ≤ sizeLine; decide), fun vt fv => ?_⟩
        refine ⟨_, rfl, rd_fld (i := 6) (Same.upd fv _ _ he4) T.k_Ending.cl (T.k_Ending.no 6 _ rfl) nd_Ending rfl rfl ⟨_, rfl, _, rfl, (by show 2 ≤ sizeLine; decide), fun kt2 fk2 => ?_⟩⟩
        have s5 := Same.upd (o := .tup [.int (lf : Int), .int (g.lead : Int)]) fk2
        have hd5 := s5 _ _ (Same.upd fv _ _ hd4)
        have hv5 := s5 _ _ (show upd H4 vt _ vt = some _ from upd_same)
        refine ⟨eb, _, rfl, DPut.t (k := bkey lf g.lead) hd5 upd_same (B4.len L15), ?_⟩
        have s45 : Same H4 _ := (Same.upd fv).trans s5
        have vF : vt ∉ F := noF kp fv
        refine ⟨_, rfl, k best _ res (EA5.step (fun b o x _ z => by rw [upd_ne z]; exact s45 _ _ x) ⟨_, upd_same, ?_⟩) fun b o x z => by rw [upd_ne z]; exact s45 _ _ (kp _ _ x z)⟩
        refine ((B4.keep fun b xs x _ => s45 _ _ x).put hm4 hv5 vF Sp).keep fun b xs x _ => ?_
        rw [upd_ne (ne_of x hd5 (by intro z; cases z))]
        exact x

theorem two_cases {α : Type} {l : List α} (h : l.length = 2) : ∃ x y, l = [x, y] := by
  match l, h with
  | [x, y], _ => exact ⟨x, y, rfl⟩
theorem ok_after_trick (T : Txt K mg) (n : Nat) (G_best_from : FnOk P w K mg base CX0 (lv n + 1) T.d_best_from.f T.d_best_from.fd ["ending", "left", "leader", "low", "high"] (spFrom T n)) :
    FnOk P w K mg base CX0 (lv n + 2) T.d_after_trick.f T.d_after_trick.fd ["ending", "left", "trick", "leader", "low", "high"] (spAfter T n) := by
  have nd := sc_after_trick.nd
  have G_place_that_takes : FnOk P w K mg base CX0 1 _ _ _ _ := ok_place_that_takes T
  have G_points_of : FnOk P w K mg base CX0 1 _ _ _ _ := ok_points_of T
  refine T.d_after_trick.fn.ok sc_after_trick (fun vs H Q E h => ?_) (fun cdv A outer s H vs Q E hr h => ?_)
  · obtain ⟨F, e, eb, d, al, h0, L, lf, tr, g, c, low, high, rfl, _⟩ := h
    rfl
  · obtain ⟨F, e, eb, d, al, h0, L, lf, tr, g, c, low, high, rfl, EA, htr, lh, hm, AA, hp, hc, hl, sub, hn, hF, k⟩ := h
    have hr_best_from := hr
    have hr_place_that_takes := hr.mono (show 1 ≤ lv n + 1 by omega)
    have hr_points_of := hr.mono (show 1 ≤ lv n + 1 by omega)
    have EA0 := EA
    obtain ⟨⟨dx, eh, ef, es, sa, he, heh, hef, hes, s32, hsa, _, _, _⟩, _, _, _, three, d6, _, L15, L32⟩ := EA
    obtain ⟨_, pl⟩ := AA.wf.playing hp
    have t2 : g.trick.length = 2 := by have := pl.trick; omega
    obtain ⟨x, y, exy⟩ := two_cases t2
    have x32 : x < 32 := pl.cards x (by rw [exy]; simp)
    have y32 : y < 32 := pl.cards y (by rw [exy]; simp)
    have c32 := Tc.may_lt AA.wf hc
    have lt32 : ∀ z ∈ g.trick ++ [c], z < 32 := fun z hz => by rw [exy] at hz; simp at hz; omega
    have hx0 : ((ic (g.trick ++ [c])).map V.int)[0]? = some (V.int (x : Int)) := by rw [exy]; rfl
    have hsx : x < sa.length := by rw [s32]; exact x32
    have hsb := List.getElem?_eq_getElem hsx
    generalize sa[x] = sb at hsb
    obtain ⟨hb, _⟩ := hsa x sb hsb
    refine ⟨_, (pss_cons (ps_set (i := 6) nd rfl (Or.inl rfl) (pe_op op_mod (pe_op op_add (pv 3) (pe_def T.d_place_that_takes G_place_that_takes hr_place_that_takes rfl (pa_cons (pe_ix ix_list (pe_fld (pv 0) rfl) (pe_ix ix_list (pv 2) pe_int (fun _ _ => rfl)) (fun _ _ => rfl)) (pa_cons (pv 2) pa_nil)))) (pe_gint rfl T.c_PLAYERS)))
      (pss_cons (ps_if (pt_cmp (pc_neI (pv 6) (pe_fld (pv 0) rfl))) (pss_one (ps_ret (pe_def T.d_best_from G_best_from hr_best_from rfl (pa_cons (pv 0) (pa_cons (pv 1) (pa_cons (pv 6) (pa_cons (pv 4) (pa_cons (pv 5) pa_nil)))))))) pss_nil)
      (pss_cons (ps_if (pt_val (pe_fld (pv 0) rfl)) (pss_one (ps_ret pe_int)) pss_nil)
      (pss_cons (ps_set (i := 7) nd rfl (Or.inl rfl) (pe_def T.d_points_of G_points_of hr_points_of rfl (pa_cons (pv 2) pa_nil)))
      (pss_one (ps_ret (pe_op op_add (pv 7) (pe_def T.d_best_from G_best_from hr_best_from rfl (pa_cons (pv 0) (pa_cons (pv 1) (pa_cons (pv 6) (pa_cons (pe_op op_sub (pv 4) (pv 7)) (pa_cons (pe_op op_sub (pv 5) (pv 7)) pa_nil))))))))))))), ?_⟩
    refine ⟨_, rfl, _, rfl, rd_fld (i := 4) he T.k_Ending.cl (T.k_Ending.no 4 _ rfl) nd_Ending rfl rfl ⟨_, rfl, tr, _, _, _, rfl, rfl, SqL.of htr, atI_in (j := 0) rfl hx0, es, _, _, _, rfl, rfl, SqL.of hes, atI_in (j := x) rfl (by rw [List.getElem?_map, hsb]; rfl), _, rfl, ?_⟩⟩
    refine ⟨sb, tr, _, g.trick ++ [c], rfl, SqL.of hb, SqL.of htr, by simp, by rw [exy]; show 3 ≤ 100; decide, fun z hz => by rw [Tc.str_len d6 x32]; exact lt32 z hz, fun j H1 fm s1 => ?_⟩
    have ej : j = Rc32.taker d (g.trick ++ [c]) := by
      refine Tc.place_is d6 (by rw [exy]; rfl) lt32 ?_
      rw [exy] at fm ⊢
      exact fm
    obtain ⟨kk, ek⟩ : ∃ kk, kk = (g.lead + Rc32.taker d (g.trick ++ [c])) % 3 := ⟨_, rfl⟩
    refine ⟨_, _, rfl, rfl, _, _, rfl, rfl, (by show (0 : Int) < 3; decide), ?_⟩
    have ekk : ((g.lead : Int) + (j : Int)) % 3 = (kk : Int) := by rw [ek, ← ej]; omega
    dsimp only
    rw [ekk]
    have he1 := s1 _ _ he
    have hF1 : ∀ b, b ∈ F → ∃ o, H1 b = some o := fun b hb => let ⟨o, ho⟩ := hF b hb; ⟨o, s1 _ _ ho⟩
    refine ⟨_, rfl, _, rfl, rd_fld (i := 1) he1 T.k_Ending.cl (T.k_Ending.no 1 _ rfl) nd_Ending rfl rfl ⟨_, _, rfl, rfl, _, rfl, itN (fun hk => ?_) (fun hk => ?_)⟩⟩
    · have hk' : kk ≠ al := by omega
      obtain ⟨v, fr, ev⟩ := Tc.node_from (n := n) AA hp hc hl sub hn ek (fun z => absurd z hk')
      rw [if_neg hk', Int.zero_add] at ev
      rw [ev] at k
      refine ⟨_, rfl, _, rfl, _, rfl, _, rfl, _, rfl, F, e, eb, d, al, h0, L, _, kk, low, high, v, rfl, EA0.same s1, lh, hm, fr, hF1, fun r H2 res E2 kp2 => ?_⟩
      exact k r H2 res E2 ((Kp.of s1).trans kp2)
    · have hk' : kk = al := by omega
      refine ⟨_, rfl, rd_fld (i := 0) he1 T.k_Ending.cl (T.k_Ending.no 0 _ rfl) nd_Ending rfl rfl ⟨_, rfl, itD (fun h5 => ?_) (fun h5 => ?_)⟩⟩
      · have := (Tc.at_trick AA hp hc hl ek).2.2.2.1 hk' h5
        rw [this] at k
        exact k 0 H1 Tc.Res.exact (EA0.same s1) (Kp.of s1)
      · obtain ⟨v, fr, ev⟩ := Tc.node_from (n := n) AA hp hc hl sub hn ek (fun _ => h5)
        rw [if_pos hk'] at ev
        rw [ev] at k
        refine ⟨_, rfl, tr, g.trick ++ [c], rfl, SqL.of (s1 _ _ htr), by rw [exy]; show 3 ≤ 100; decide, fun H2 s2 => ?_⟩
        have s12 := s1.trans s2
        have hF2 : ∀ b, b ∈ F → ∃ o, H2 b = some o := fun b hb => let ⟨o, ho⟩ := hF b hb; ⟨o, s12 _ _ ho⟩
        refine ⟨_, rfl, _, rfl, _, rfl, _, rfl, _, rfl, _, rfl, _, _, rfl, rfl, _, rfl, _, rfl, _, _, rfl, rfl, ?_⟩
        refine ⟨F, e, eb, d, al, h0, L, _, kk, low - _, high - _, v, rfl, EA0.same s12, by omega, by omega, fr, hF2, fun r H3 res E3 kp3 => ?_⟩
        exact ⟨_, _, rfl, rfl, k _ H3 res.shift E3 ((Kp.of s12).trans kp3)⟩

theorem vals_snoc {g : Rc32.Game} {cs : List Nat} {i c : Nat} (h : cs[i]? = some c) : Tc.vals g (cs.take (i + 1)) = Tc.vals g (cs.take i) ++ [Tc.toGo g.points (Rc32.left g - 1) (Tc.next g c)] := by
  unfold Tc.vals
  rw [List.take_add_one, h]
  simp
theorem ok_best_in_trick_zero (T : Txt K mg) : FnOk P w K mg base CX0 (lv 0) T.d_best_in_trick.f T.d_best_in_trick.fd ["ending", "left", "trick", "who", "low", "high"] (spBest T 0) := by
  refine T.d_best_in_trick.fn.ok sc_best_in_trick (fun vs H Q E h => ?_) (fun cdv A outer s H vs Q E hr h => ?_)
  · obtain ⟨F, e, eb, d, al, h0, L, lf, tr, ts, who, low, high, val, rfl, _⟩ := h
    rfl
  · obtain ⟨F, e, eb, d, al, h0, L, lf, tr, ts, who, low, high, val, rfl, _, _, _, _, node, _⟩ := h
    exact (Tc.node_zero node).elim
theorem ok_best_in_trick_succ (T : Txt K mg) (n : Nat) (G_best_in_trick : FnOk P w K mg base CX0 (lv n) T.d_best_in_trick.f T.d_best_in_trick.fd ["ending", "left", "trick", "who", "low", "high"] (spBest T n)) :
    FnOk P w K mg base CX0 (lv n + 3) T.d_best_in_trick.f T.d_best_in_trick.fd ["ending", "left", "trick", "who", "low", "high"] (spBest T (n + 1)) := by
  have nd := sc_best_in_trick.nd
  have G_after_trick : FnOk P w K mg base CX0 (lv n + 2) _ _ _ _ := ok_after_trick T n (ok_best_from T n G_best_in_trick)
  have G_playable_here : FnOk P w K mg base CX0 2 _ _ _ _ := ok_playable_here T
  have G_cards_in : FnOk P w K mg base CX0 1 _ _ _ _ := ok_cards_in T
  refine T.d_best_in_trick.fn.ok sc_best_in_trick (fun vs H Q E h => ?_) (fun cdv A outer s H vs Q E hr h => ?_)
  · obtain ⟨F, e, eb, d, al, h0, L, lf, tr, ts, who, low, high, val, rfl, _⟩ := h
    rfl
  · obtain ⟨F, e, eb, d, al, h0, L, lf, tr, ts, who, low, high, val, rfl, EA, htr, lh, hm, node, hF, k⟩ := h
    have hr_after_trick := hr
    have hr_best_in_trick := hr.mono (show lv n ≤ lv n + 2 by omega)
    have hr_playable_here := hr.mono (show 2 ≤ lv n + 2 by omega)
    have hr_cards_in := hr.mono (show 1 ≤ lv n + 2 by omega)
    have EA0 := EA
    obtain ⟨⟨dx, eh, ef, es, sa, he, heh, hef, hes, s32, hsa, _, _, _⟩, ⟨kvs0, hd0, _⟩, _, _, three, d6, al3, L15, L32⟩ := EA
    refine ⟨_, (pss_cons (ps_if (pt_cmp (pc_eqI (pe_callB call_len_seq (by rfl) T.nLen PySem.boot_len (pa_cons (pv 2) pa_nil)) (pe_gint rfl T.c_PLAYERS))) (pss_one (ps_ret (pe_def T.d_after_trick G_after_trick hr_after_trick rfl (pa_cons (pv 0) (pa_cons (pv 1) (pa_cons (pv 2) (pa_cons (pv 3) (pa_cons (pv 4) (pa_cons (pv 5) pa_nil))))))))) pss_nil)
      (pss_cons (ps_set (i := 6) nd rfl (Or.inl rfl) (pe_ifExp (pt_cmp (pc_eqI (pv 3) (pe_fld (pv 0) rfl))) pe_int (pe_fld (pv 0) rfl)))
      (pss_cons (ps_for PassesOwn.never rfl (pi_list (pe_def T.d_cards_in G_cards_in hr_cards_in rfl (pa_cons (pe_def T.d_playable_here G_playable_here hr_playable_here rfl (pa_cons (pv 0) (pa_cons (pv 1) (pa_cons (pv 2) (pa_cons (pv 3) pa_nil))))) pa_nil))) (pg_name (i := 7) nd rfl (Or.inl rfl)) (pss_cons (ps_set (i := 8) nd rfl (Or.inl rfl) (pe_def T.d_best_in_trick G_best_in_trick hr_best_in_trick rfl (pa_cons (pv 0) (pa_cons (pe_op op_xor (pv 1) (pe_op op_shl pe_int (pv 7))) (pa_cons (pe_op op_cat (pv 2) (pe_lst (pa_cons (pv 7) pa_nil))) (pa_cons (pe_op op_mod (pe_op op_add (pv 3) pe_int) (pe_gint rfl T.c_PLAYERS)) (pa_cons (pv 4) (pa_cons (pv 5) pa_nil))))))))
      (pss_cons (ps_if (pt_cmp (pc_eqI (pv 3) (pe_fld (pv 0) rfl))) (pss_cons (ps_set (i := 6) nd rfl (Or.inl rfl) (pe_callB (call_max2 rfl) (by rfl) T.nMax PyProof.Rows.boot_max (pa_cons (pv 6) (pa_cons (pv 8) pa_nil))))
      (pss_one (ps_set (i := 4) nd rfl (Or.inl rfl) (pe_callB (call_max2 rfl) (by rfl) T.nMax PyProof.Rows.boot_max (pa_cons (pv 4) (pa_cons (pv 6) pa_nil)))))) (pss_cons (ps_set (i := 6) nd rfl (Or.inl rfl) (pe_callB (call_min2 rfl) (by rfl) T.nMin PyProof.Rows.boot_min (pa_cons (pv 6) (pa_cons (pv 8) pa_nil))))
      (pss_one (ps_set (i := 5) nd rfl (Or.inl rfl) (pe_callB (call_min2 rfl) (by rfl) T.nMin PyProof.Rows.boot_min (pa_cons (pv 5) (pa_cons (pv 6) pa_nil)))))))
      (pss_one (ps_if (pt_cmp (pc_ge (pv 4) (pv 5))) (pss_one (ps_break)) pss_nil)))))
      (pss_one (ps_ret (pv 6)))))), ?_⟩
    cases node with
    | full AA hp hc hl sub hn =>
      rename_i g lf0 c
      obtain ⟨_, pl⟩ := AA.wf.playing hp
      have t2 : g.trick.length = 2 := by have := pl.trick; omega
      refine ⟨_, rfl, tr, _, rfl, .inl (SqL.of htr), _, _, rfl, rfl, _, rfl, itD (fun h3 => ?_) (fun h3 => ?_)⟩
      · exact ⟨_, rfl, _, rfl, _, rfl, _, rfl, _, rfl, _, rfl, F, e, eb, d, al, h0, L, lf0, tr, g, c, low, high, rfl, EA0, htr, lh, hm, AA, hp, hc, hl, sub, hn, hF, k⟩
      · exfalso
        rw [ic_len, List.length_append, t2] at h3
        exact h3 rfl
    | mid AA hp sub hn =>
      rename_i g
      obtain ⟨_, pl⟩ := AA.wf.playing hp
      have tl := pl.trick
      have w3 := Tc.turn_lt hp
      refine ⟨_, rfl, tr, _, rfl, .inl (SqL.of htr), _, _, rfl, rfl, _, rfl, itD (fun h3 => ?_) (fun h3 => ?_)⟩
      · exfalso
        rw [ic_len] at h3
        omega
      have emask : Tc.mPlayableIn (d : Nat) (h0.getD (Rc32.turn g) 0 &&& lf) (ic g.trick) = Rc32.maskOf (Tc.may g) := Tc.at_mask AA hp
      have mh := Tc.may_hand AA.wf
      have mlt : Rc32.maskOf (Tc.may g) < 2 ^ 32 := Tc.mask_lt _
      have sl : (10000 : Nat) < sizeLine := by decide
      have pre : ∀ i c, (Tc.mCards (Rc32.maskOf (Tc.may g)))[i]? = some c → c ∈ Tc.may g := fun i c h => mh.cards.mem_iff.mp (List.mem_of_getElem? h)
      refine ⟨_, rfl, _, rfl, rd_fld (i := 1) he T.k_Ending.cl (T.k_Ending.no 1 _ rfl) nd_Ending rfl rfl ⟨_, _, rfl, rfl, _, rfl, itD (fun ha => ?_) (fun ha => ?_)⟩⟩
      · have hal : g.alone = some (Rc32.turn g) := by rw [AA.alone]; congr 1; omega
        refine ⟨_, rfl, _, rfl, _, rfl, _, rfl, F, e, eb, d, al, h0, L, lf, tr, g.trick, Rc32.turn g, rfl, EA0, htr, w3, pl.cards, ?_⟩
        rw [emask]
        refine ⟨_, rfl, mlt, fun r H1 h1 f1 s1 => ⟨r, rfl, ⟨_, SqL.of h1⟩, ?_⟩⟩
        have EA1 := EA0.same s1
        have reb : r ≠ eb := ne_of h1 (s1 _ _ hd0) (by intro z; cases z)
        refine for_list (K := K) (a := r) (xs := (ic (Tc.mCards (Rc32.maskOf (Tc.may g)))).map V.int)
          (fun i σ H2 => ∃ (best lo : Int) (v7 v8 : Option V), σ = [some (.ref e), some (.int (lf : Int)), some (.ref tr), some (.int (Rc32.turn g : Int)), some (.int lo), some (.int high), some (.int best), v7, v8] ∧
            Tc.MaxI low high (Tc.toGo g.points (Rc32.left g) g) best lo (Tc.vals g ((Tc.mCards (Rc32.maskOf (Tc.may g))).take i)) ∧ EndAt T F H2 e eb d al h0 L ∧ Kp eb H1 H2)
          ⟨0, low, none, none, rfl, .start lh (Tc.toGo_nonneg (.inl hp) AA.wf), EA1, Kp.refl⟩ (fun i σ H2 _ ⟨_, _, _, _, _, _, _, kp⟩ => SqL.of (kp _ _ h1 reb)) ?_ ?_
        · rintro i y0 σ H2 hi ⟨best, lo, v7, v8, rfl, MI, E2, kp2⟩
          obtain ⟨c0, hc0, rfl⟩ := ints_at hi
          obtain ⟨cn, _, rfl⟩ := ic_mem (List.mem_of_getElem? hc0)
          have hcn : (Tc.mCards (Rc32.maskOf (Tc.may g)))[i]? = some cn := by
            unfold ic at hc0
            rw [List.getElem?_map] at hc0
            cases q : (Tc.mCards (Rc32.maskOf (Tc.may g)))[i]? with
            | none => rw [q] at hc0; cases hc0
            | some x => rw [q] at hc0; have := Option.some.inj hc0; congr 1; exact Int.ofNat.inj this
          have cm := pre i cn hcn
          have c32 := Tc.may_lt AA.wf cm
          have htr2 : H2 tr = some (.lst ((ic g.trick).map V.int)) := kp2 _ _ (s1 _ _ htr) (ne_of htr hd0 (by intro z; cases z))
          have ex : Builtin.bitXor (lf : Int) (1 * 2 ^ ((cn : Int)).toNat) = ((lf ^^^ 2 ^ cn : Nat) : Int) := by
            rw [← bxor]
            congr 1
            rw [Int.one_mul, Int.toNat_natCast, Int.natCast_pow]
            rfl
          have ewho : ((Rc32.turn g : Int) + 1) % 3 = (((Rc32.turn g + 1) % 3 : Nat) : Int) := by omega
          have etr : (ic g.trick).map V.int ++ [V.int (cn : Int)] = (ic (g.trick ++ [cn])).map V.int := by unfold ic; simp
          refine ⟨_, rfl, _, rfl, _, rfl, _, _, rfl, rfl, ⟨by omega, by omega, by decide⟩, _, _, rfl, rfl, _, rfl, _, rfl, (by show 1 ≤ sizeLine; decide), fun q1 f1 => ?_⟩
          refine ⟨tr, q1, _, _, rfl, rfl, Same.upd f1 _ _ htr2, upd_same, by rw [ic_len]; show g.trick.length + 1 ≤ sizeLine; omega, fun q2 f2 => ?_⟩
          dsimp only
          rw [ex, etr]
          refine ⟨_, rfl, _, _, rfl, rfl, _, _, rfl, rfl, (by show (0 : Int) < 3; decide), ?_⟩
          dsimp only
          rw [ewho]
          refine ⟨_, rfl, _, rfl, ?_⟩
          have s22 : Same H2 _ := (Same.upd f1).trans (Same.upd (o := .lst ((ic (g.trick ++ [cn])).map V.int)) f2)
          refine ⟨F, e, eb, d, al, h0, L, _, q2, g.trick ++ [cn], (Rc32.turn g + 1) % 3, lo, high, _, rfl, E2.same s22, upd_same, MI.lt, hm, Tc.node_child (n := n) AA hp sub hn cm, (fun b hb => let ⟨o, ho⟩ := hF b hb; ⟨o, s22 _ _ (kp2 _ _ (s1 _ _ ho) fun z => EA0.bF (by rw [← z]; exact hb))⟩), fun cr H3 res E3 kp3 => ?_⟩
          have kp13 : Kp eb H1 H3 := (kp2.trans (Kp.of s22)).trans kp3
          have kpH : Kp eb H H3 := (Kp.of s1).trans kp13
          obtain ⟨dx3, eh3, ef3, es3, sa3, he3, _⟩ := E3.obj
          refine ⟨_, rfl, _, rfl, rd_fld (i := 1) he3 T.k_Ending.cl (T.k_Ending.no 1 _ rfl) nd_Ending rfl rfl ⟨_, _, rfl, rfl, _, rfl, itD (fun z => ?_) (fun z => ?_)⟩⟩
          · skip
            -- best = max(best, comes); low = max(low, best)
            refine ⟨_, rfl, _, rfl, _, _, rfl, ?_⟩
            refine ⟨_, rfl, _, rfl, _, _, rfl, ?_⟩
            obtain ⟨m1, m2⟩ := MI.step res (Tc.node_max AA.wf hp hal cm) rfl rfl
            refine ⟨_, rfl, _, rfl, _, _, rfl, rfl, _, rfl, itD (fun hb => ?_) (fun hb => ?_)⟩
            · exact ⟨_, rfl, k _ H3 (m1 hb) E3 kpH⟩
            · refine ⟨_, _, _, _, rfl, ?_, E3, kp13⟩
              rw [vals_snoc hcn]
              exact m2 hb
          · exact absurd ha z
        · rintro σ H2 ⟨best, lo, v7, v8, rfl, MI, E2, kp2⟩
          have e : (Tc.mCards (Rc32.maskOf (Tc.may g))).take ((ic (Tc.mCards (Rc32.maskOf (Tc.may g)))).map V.int).length = Tc.mCards (Rc32.maskOf (Tc.may g)) := by rw [ic_len, List.take_length]
          rw [e] at MI
          exact ⟨_, rfl, k best H2 (MI.done (Tc.node_val AA.wf hp rfl)) E2 ((Kp.of s1).trans kp2)⟩
      · have hal : g.alone ≠ some (Rc32.turn g) := by
          rw [AA.alone]
          intro z
          exact ha (by rw [Option.some.inj z])
        refine ⟨_, rfl, rd_fld (i := 5) he T.k_Ending.cl (T.k_Ending.no 5 _ rfl) nd_Ending rfl rfl ?_⟩
        refine ⟨_, rfl, _, rfl, _, rfl, _, rfl, F, e, eb, d, al, h0, L, lf, tr, g.trick, Rc32.turn g, rfl, EA0, htr, w3, pl.cards, ?_⟩
        rw [emask]
        refine ⟨_, rfl, mlt, fun r H1 h1 f1 s1 => ⟨r, rfl, ⟨_, SqL.of h1⟩, ?_⟩⟩
        have EA1 := EA0.same s1
        have reb : r ≠ eb := ne_of h1 (s1 _ _ hd0) (by intro z; cases z)
        refine for_list (K := K) (a := r) (xs := (ic (Tc.mCards (Rc32.maskOf (Tc.may g)))).map V.int)
          (fun i σ H2 => ∃ (best lo : Int) (v7 v8 : Option V), σ = [some (.ref e), some (.int (lf : Int)), some (.ref tr), some (.int (Rc32.turn g : Int)), some (.int low), some (.int lo), some (.int best), v7, v8] ∧
            Tc.MinI low high (Tc.toGo g.points (Rc32.left g) g) best lo (Tc.vals g ((Tc.mCards (Rc32.maskOf (Tc.may g))).take i)) ∧ lo ≤ high ∧ EndAt T F H2 e eb d al h0 L ∧ Kp eb H1 H2)
          ⟨Tc.mostOf d, high, none, none, rfl, .start lh hm, Int.le_refl _, EA1, Kp.refl⟩ (fun i σ H2 _ ⟨_, _, _, _, _, _, _, _, kp⟩ => SqL.of (kp _ _ h1 reb)) ?_ ?_
        · rintro i y0 σ H2 hi ⟨best, lo, v7, v8, rfl, MI, lle, E2, kp2⟩
          obtain ⟨c0, hc0, rfl⟩ := ints_at hi
          obtain ⟨cn, _, rfl⟩ := ic_mem (List.mem_of_getElem? hc0)
          have hcn : (Tc.mCards (Rc32.maskOf (Tc.may g)))[i]? = some cn := by
            unfold ic at hc0
            rw [List.getElem?_map] at hc0
            cases q : (Tc.mCards (Rc32.maskOf (Tc.may g)))[i]? with
            | none => rw [q] at hc0; cases hc0
            | some x => rw [q] at hc0; have := Option.some.inj hc0; congr 1; exact Int.ofNat.inj this
          have cm := pre i cn hcn
          have c32 := Tc.may_lt AA.wf cm
          have htr2 : H2 tr = some (.lst ((ic g.trick).map V.int)) := kp2 _ _ (s1 _ _ htr) (ne_of htr hd0 (by intro z; cases z))
          have ex : Builtin.bitXor (lf : Int) (1 * 2 ^ ((cn : Int)).toNat) = ((lf ^^^ 2 ^ cn : Nat) : Int) := by
            rw [← bxor]
            congr 1
            rw [Int.one_mul, Int.toNat_natCast, Int.natCast_pow]
            rfl
          have ewho : ((Rc32.turn g : Int) + 1) % 3 = (((Rc32.turn g + 1) % 3 : Nat) : Int) := by omega
          have etr : (ic g.trick).map V.int ++ [V.int (cn : Int)] = (ic (g.trick ++ [cn])).map V.int := by unfold ic; simp
          refine ⟨_, rfl, _, rfl, _, rfl, _, _, rfl, rfl, ⟨by omega, by omega, by decide⟩, _, _, rfl, rfl, _, rfl, _, rfl, (by show 1 ≤ sizeLine; decide), fun q1 f1 => ?_⟩
          refine ⟨tr, q1, _, _, rfl, rfl, Same.upd f1 _ _ htr2, upd_same, by rw [ic_len]; show g.trick.length + 1 ≤ sizeLine; omega, fun q2 f2 => ?_⟩
          dsimp only
          rw [ex, etr]
          refine ⟨_, rfl, _, _, rfl, rfl, _, _, rfl, rfl, (by show (0 : Int) < 3; decide), ?_⟩
          dsimp only
          rw [ewho]
          refine ⟨_, rfl, _, rfl, ?_⟩
          have s22 : Same H2 _ := (Same.upd f1).trans (Same.upd (o := .lst ((ic (g.trick ++ [cn])).map V.int)) f2)
          refine ⟨F, e, eb, d, al, h0, L, _, q2, g.trick ++ [cn], (Rc32.turn g + 1) % 3, low, lo, _, rfl, E2.same s22, upd_same, MI.lt, (Int.le_trans lle hm), Tc.node_child (n := n) AA hp sub hn cm, (fun b hb => let ⟨o, ho⟩ := hF b hb; ⟨o, s22 _ _ (kp2 _ _ (s1 _ _ ho) fun z => EA0.bF (by rw [← z]; exact hb))⟩), fun cr H3 res E3 kp3 => ?_⟩
          have kp13 : Kp eb H1 H3 := (kp2.trans (Kp.of s22)).trans kp3
          have kpH : Kp eb H H3 := (Kp.of s1).trans kp13
          obtain ⟨dx3, eh3, ef3, es3, sa3, he3, _⟩ := E3.obj
          refine ⟨_, rfl, _, rfl, rd_fld (i := 1) he3 T.k_Ending.cl (T.k_Ending.no 1 _ rfl) nd_Ending rfl rfl ⟨_, _, rfl, rfl, _, rfl, itD (fun z => ?_) (fun z => ?_)⟩⟩
          · exact absurd z ha
          · -- best = min(best, comes); high = min(high, best)
            refine ⟨_, rfl, _, rfl, _, _, rfl, ?_⟩
            refine ⟨_, rfl, _, rfl, _, _, rfl, ?_⟩
            obtain ⟨m1, m2⟩ := MI.step res (Tc.node_min AA.wf hp hal cm) rfl rfl
            refine ⟨_, rfl, _, rfl, _, _, rfl, rfl, _, rfl, itD (fun hb => ?_) (fun hb => ?_)⟩
            · exact ⟨_, rfl, k _ H3 (m1 hb) E3 kpH⟩
            · refine ⟨_, _, _, _, rfl, ?_, ?_, E3, kp13⟩
              · rw [vals_snoc hcn]
                exact m2 hb
              · split <;> omega
        · rintro σ H2 ⟨best, lo, v7, v8, rfl, MI, lle, E2, kp2⟩
          have e : (Tc.mCards (Rc32.maskOf (Tc.may g))).take ((ic (Tc.mCards (Rc32.maskOf (Tc.may g)))).map V.int).length = Tc.mCards (Rc32.maskOf (Tc.may g)) := by rw [ic_len, List.take_length]
          rw [e] at MI
          exact ⟨_, rfl, k best H2 (MI.done (Tc.node_val AA.wf hp rfl)) E2 ((Kp.of s1).trans kp2)⟩
theorem ok_best_in_trick (T : Txt K mg) : ∀ n : Nat, FnOk P w K mg base CX0 (lv n) T.d_best_in_trick.f T.d_best_in_trick.fd ["ending", "left", "trick", "who", "low", "high"] (spBest T n)
  | 0 => ok_best_in_trick_zero T
  | n + 1 => ok_best_in_trick_succ T n (ok_best_in_trick T n)
end
end Prog
namespace Prog
open PySem L2
/-! ### the look ahead as a call -/
section
variable {P : Program} {w : World} {K : PySem.W.Frag} {mg : Str → Option Value} {base : Heap}
def spEndingInit (T : Txt K mg) : Sp := fun vs H Q _ => ∃ (x dx a l t : Addr) (en : V) (p : Tc.PG) (d al L : Nat) (F : List Addr), vs = [.ref x, .ref a] ∧ H x = some (.ins T.k_Ending.C dx []) ∧ GameAt T.k_Game.C H a l t en p ∧ a ≠ x ∧ d < 6 ∧ p.declared = some (d : Int) ∧ al < 3 ∧ p.alone = (al : Int) ∧ p.hands.length = 3 ∧
  (∀ b, b ∈ F → ∃ o, H b = some o) ∧ x ∉ F ∧ (Tc.mCards L).length ≤ 15 ∧ L < 2 ^ 32 ∧ ∀ eb H', EndAt T F H' x eb d al p.hands L → Kp x H H' → H eb = none → Q .non H'
theorem ok_Ending_init (T : Txt K mg) : FnOk P w K mg base CX0 5 T.k_Ending.f T.k_Ending.fd ["self", "game"] (spEndingInit T) := by
  have nd := sc_Ending_init.nd
  have G_set_of : FnOk P w K mg base CX0 1 _ _ _ _ := ok_set_of T
  have G_followers : FnOk P w K mg base CX0 3 _ _ _ _ := ok_followers T
  have G_strengths : FnOk P w K mg base CX0 4 _ _ _ _ := ok_strengths T
  refine T.k_Ending.fn.ok sc_Ending_init (fun vs H Q E h => ?_) (fun cdv A outer s H vs Q E hr h => ?_)
  · obtain ⟨x, dx, a, l, t, en, p, d, al, L, F, rfl, _⟩ := h
    rfl
  · obtain ⟨x, dx, a, l, t, en, p, d, al, L, F, rfl, hx, G, ax, d6, ed, al3, eal, three, hF, xF, L15, L32, k⟩ := h
    obtain ⟨⟨dg, h1⟩, hl⟩ := G
    have hr_set_of := hr.mono (show 1 ≤ 4 by decide)
    have hr_followers := hr.mono (show 3 ≤ 4 by decide)
    have hr_strengths := hr
    have lx : l ≠ x := ne_of hl hx (by intro z; cases z)
    have ev : optV p.declared = V.int (d : Int) := by rw [ed]; rfl
    have sl : (10000 : Nat) < sizeLine := by decide
    refine ⟨_, (pss_cons (ps_fld (pv 0) (pe_cmp (pc_eqI (pe_fld (pv 1) rfl) (pe_gint rfl T.c_NULL))) rfl)
      (pss_cons (ps_fld (pv 0) (pe_fld (pv 1) rfl) rfl)
      (pss_cons (ps_fld (pv 0) (pe_callTy call_list_of (by rfl) T.nList PyProof.Rows.boot_list (pa_cons (pe_fld (pv 1) rfl) pa_nil)) rfl)
      (pss_cons (ps_fld (pv 0) (pe_lc (own := [("led", 2)]) rfl nd (pi_range1 rfl T.nRange (pa_cons (pe_gint rfl T.c_ALL_CARDS) pa_nil)) (blk_of (N := ["self", "game", "led"]) (sc := defScope s_Ending_init) rfl rfl ⟨rfl, by decide +kernel, by decide +kernel, by decide +kernel, by decide +kernel⟩) (fun _ _ _ _ _ => pg_name (i := 2) nd rfl (Or.inl rfl)) (fun _ _ _ _ _ => pts_nil) (by intro _ _ _ _ _; exact (pe_def T.d_set_of G_set_of hr_set_of rfl (pa_cons (pe_def T.d_followers G_followers hr_followers rfl (pa_cons (pe_fldB (K := K) rfl (pv 1) rfl) (pa_cons (pv 2) pa_nil))) pa_nil)))) rfl)
      (pss_cons (ps_fld (pv 0) (pe_lc (own := [("led", 2)]) rfl nd (pi_range1 rfl T.nRange (pa_cons (pe_gint rfl T.c_ALL_CARDS) pa_nil)) (blk_of (N := ["self", "game", "led"]) (sc := defScope s_Ending_init) rfl rfl ⟨rfl, by decide +kernel, by decide +kernel, by decide +kernel, by decide +kernel⟩) (fun _ _ _ _ _ => pg_name (i := 2) nd rfl (Or.inl rfl)) (fun _ _ _ _ _ => pts_nil) (by intro _ _ _ _ _; exact (pe_def T.d_strengths G_strengths hr_strengths rfl (pa_cons (pe_fldB (K := K) rfl (pv 1) rfl) (pa_cons (pv 2) pa_nil))))) rfl)
      (pss_cons (ps_fld (pv 0) (pe_ifExp (pt_val (pe_fld (pv 0) rfl)) pe_int (pe_gint rfl T.c_ALL_POINTS)) rfl)
      (pss_one (ps_fld (pv 0) pe_dnewT rfl)))))))), ?_⟩
    -- self.null = game.declared == NULL
    refine ⟨_, rfl, rd_fld (i := 9) h1 T.k_Game.cl (T.k_Game.no 9 _ rfl) nd_Game rfl rfl ?_⟩
    rw [ev]
    refine ⟨_, _, rfl, rfl, _, rfl, st_newK (ks := ks_Ending) (vs := []) hx T.k_Ending.cl (T.k_Ending.no 0 _ rfl) nd_Ending rfl (by decide) fun H1 x1 e1 => ?_⟩
    have k1 : Kp x H H1 := fun b o hb nb => by rw [e1 b nb]; exact hb
    -- self.alone = game.alone
    refine ⟨_, rfl, rd_fld (i := 6) (k1 _ _ h1 ax) T.k_Game.cl (T.k_Game.no 6 _ rfl) nd_Game rfl rfl ⟨_, rfl, st_newK x1 T.k_Ending.cl (T.k_Ending.no 1 _ rfl) nd_Ending rfl (by decide) fun H2 x2 e2 => ?_⟩⟩
    have k2 : Kp x H H2 := fun b o hb nb => by rw [e2 b nb]; exact k1 b o hb nb
    -- self.hands = list(game.hands)
    refine ⟨_, rfl, rd_fld (i := 0) (k2 _ _ h1 ax) T.k_Game.cl (T.k_Game.no 0 _ rfl) nd_Game rfl rfl ⟨l, _, rfl, .inl (SqL.of (k2 _ _ hl lx)), fun eh feh => ?_⟩⟩
    have xeh : x ≠ eh := ne_of_none x2 feh
    refine ⟨_, rfl, st_newK (ks := ks_Ending) ((upd_ne xeh).trans x2) T.k_Ending.cl (T.k_Ending.no 2 _ rfl) nd_Ending rfl (by decide) fun H3 x3 e3 => ?_⟩
    have k3 : Kp x H H3 := fun b o hb nb => by rw [e3 b nb]; exact Same.upd feh b o (k2 b o hb nb)
    have heh : H3 eh = some (.lst (hv p)) := by rw [e3 eh xeh.symm]; exact upd_same
    have ehF : eh ∉ F := fun z => by
      obtain ⟨o, ho⟩ := hF eh z
      rw [k2 eh o ho xeh.symm] at feh
      cases feh
    -- self.following = [..]
    refine ⟨32, rfl, by decide, by decide, fun ef fef => lc_range (lo := 0) (n := 32) (fun i H4 => H4 ef = some (.lst ((follows d).take i)) ∧ Same H3 H4) ⟨upd_same, Same.upd fef⟩ ?f1 ?f2⟩
    case f1 =>
      rintro i H4 hi ⟨hD, s4⟩
      have ei : (0 : Int) + (i : Nat) = ((i : Nat) : Int) := by omega
      rw [ei]
      refine ⟨rfl, ?_⟩
      dsimp only [tYes]
      refine iteT ?_
      refine ⟨_, rfl, rd_fld (i := 9) (s4 _ _ (k3 _ _ h1 ax)) T.k_Game.cl (T.k_Game.no 9 _ rfl) nd_Game rfl rfl ?_⟩
      rw [ev]
      refine ⟨_, rfl, d, i, rfl, fun q H5 h5 f5 s5 => ⟨q, _, rfl, SqL.of h5, foll_small d6 hi, ?_⟩⟩
      refine ⟨_, s5 _ _ hD, ?_, ?_, ?_⟩
      · rw [List.length_take]; omega
      · rw [upd_same, List.take_add_one, follows_get hi]
        rfl
      · intro b o hb
        have hne : b ≠ ef := fun z => by rw [z, fef] at hb; cases hb
        rw [upd_ne hne]
        exact s5 _ _ (s4 _ _ hb)
    case f2 =>
    rintro H4 ⟨hD, s4⟩
    have hD : H4 ef = some (.lst (follows d)) := by
      rw [hD, List.take_of_length_le]
      unfold follows
      rw [List.length_map, List.length_range]
      exact Nat.le_refl _
    have xef : x ≠ ef := ne_of_none x3 fef
    refine ⟨_, rfl, st_newK (ks := ks_Ending) (s4 _ _ x3) T.k_Ending.cl (T.k_Ending.no 3 _ rfl) nd_Ending rfl (by decide) fun H5 x5 e5 => ?_⟩
    have k5 : Kp x H H5 := fun b o hb nb => by rw [e5 b nb]; exact s4 _ _ (k3 b o hb nb)
    have k35 : Kp x H3 H5 := fun b o hb nb => by rw [e5 b nb]; exact s4 _ _ hb
    have hef : H5 ef = some (.lst (follows d)) := by rw [e5 ef xef.symm]; exact hD
    have efF : ef ∉ F := fun z => by
      obtain ⟨o, ho⟩ := hF ef z
      rw [k3 ef o ho xef.symm] at fef
      cases fef
    -- self.strong = [..]
    refine ⟨32, rfl, by decide, by decide, fun es fes => lc_range (lo := 0) (n := 32) (fun i H6 => (∃ sa : List Addr, sa.length = i ∧ H6 es = some (.lst (sa.map V.ref)) ∧ ∀ (c : Nat) (b : Addr), sa[c]? = some b → H6 b = some (.lst ((Tc.mStr (d : Nat) (c : Nat)).map V.int)) ∧ H5 b = none) ∧ Same H5 H6) ⟨⟨[], rfl, upd_same, fun c b hb => by simp at hb⟩, Same.upd fes⟩ ?g1 ?g2⟩
    case g1 =>
      rintro i H6 hi ⟨⟨sa, sl1, hE, hsa⟩, s6⟩
      have ei : (0 : Int) + (i : Nat) = ((i : Nat) : Int) := by omega
      rw [ei]
      refine ⟨rfl, ?_⟩
      dsimp only [tYes]
      refine iteT ?_
      refine ⟨_, rfl, rd_fld (i := 9) (s6 _ _ (k5 _ _ h1 ax)) T.k_Game.cl (T.k_Game.no 9 _ rfl) nd_Game rfl rfl ?_⟩
      rw [ev]
      refine ⟨_, rfl, d, i, rfl, d6, hi, fun q H7 h7 f7 s7 => ?_⟩
      have qes : q ≠ es := fun z => by rw [z, hE] at f7; cases f7
      refine ⟨_, s7 _ _ hE, ?_, ⟨sa ++ [q], ?_, ?_, ?_⟩, ?_⟩
      · rw [List.length_map]; omega
      · rw [List.length_append, sl1]; rfl
      · rw [upd_same]; simp
      · intro c b hb
        by_cases hc : c < sa.length
        · rw [List.getElem?_append_left hc] at hb
          obtain ⟨y1, y2⟩ := hsa c b hb
          have bes : b ≠ es := fun z => by
            rw [z, hE] at y1
            have := HO.lst.inj (Option.some.inj y1)
            have l32 := congrArg List.length this
            rw [List.length_map, List.length_map, Tc.str_len d6 (by omega)] at l32
            omega
          rw [upd_ne bes]
          exact ⟨s7 _ _ y1, y2⟩
        · rw [List.getElem?_append_right (by omega)] at hb
          have : c = i := by
            have := (List.getElem?_eq_some_iff.mp hb).1
            simp at this
            omega
          subst this
          rw [sl1] at hb
          simp at hb
          subst hb
          rw [upd_ne qes]
          exact ⟨h7, s6.free f7⟩
      · intro b o hb
        have hne : b ≠ es := fun z => by rw [z, fes] at hb; cases hb
        rw [upd_ne hne]
        exact s7 _ _ (s6 _ _ hb)
    case g2 =>
    rintro H6 ⟨⟨sa, sl1, hE, hsa⟩, s6⟩
    have xes : x ≠ es := ne_of_none x5 fes
    refine ⟨_, rfl, st_newK (ks := ks_Ending) (s6 _ _ x5) T.k_Ending.cl (T.k_Ending.no 4 _ rfl) nd_Ending rfl (by decide) fun H7 x7 e7 => ?_⟩
    have k7 : Kp x H H7 := fun b o hb nb => by rw [e7 b nb]; exact s6 _ _ (k5 b o hb nb)
    have k57 : Kp x H5 H7 := fun b o hb nb => by rw [e7 b nb]; exact s6 _ _ hb
    have hes : H7 es = some (.lst (sa.map V.ref)) := by rw [e7 es xes.symm]; exact hE
    have esF : es ∉ F := fun z => by
      obtain ⟨o, ho⟩ := hF es z
      rw [k5 es o ho xes.symm] at fes
      cases fes
    have hsa7 : ∀ (c : Nat) (b : Addr), sa[c]? = some b → H7 b = some (.lst ((Tc.mStr (d : Nat) (c : Nat)).map V.int)) ∧ b ∉ F := fun c b hb => by
      obtain ⟨y1, y2⟩ := hsa c b hb
      have bx : b ≠ x := fun z => by rw [z, x5] at y2; cases y2
      refine ⟨by rw [e7 b bx]; exact y1, fun z => ?_⟩
      obtain ⟨o, ho⟩ := hF b z
      rw [k5 b o ho bx] at y2
      cases y2
    -- self.most = 1 if self.null else ALL_POINTS; self.bounds = {}
    have e5d : decide ((d : Int) = 5) = decide (d = 5) := by congr 1; simp; omega
    dsimp only at x7
    rw [e5d] at x7
    have fin : ∀ (H8 : Hp) (eb : Addr), H8 x = some (.ins T.k_Ending.C dx (ks_Ending.zip ([V.bl (decide (d = 5)), V.int p.alone, V.ref eh, V.ref ef, V.ref es] ++ [V.int (Tc.mostOf d)]))) → (∀ b, b ≠ x → H8 b = H7 b) → H8 eb = none →
        ∀ H9 : Hp, H9 x = some (.ins T.k_Ending.C dx (ks_Ending.zip ([V.bl (decide (d = 5)), V.int p.alone, V.ref eh, V.ref ef, V.ref es, V.int (Tc.mostOf d)] ++ [V.ref eb]))) → (∀ b, b ≠ x → H9 b = upd H8 eb (.dT []) b) → Q .non H9 := by
      intro H8 eb x8 e8 feb H9 x9 e9
      have xeb : x ≠ eb := ne_of_none x8 feb
      have k79 : Kp x H7 H9 := fun b o hb nb => by
        have h8 : H8 b = some o := by rw [e8 b nb]; exact hb
        rw [e9 b nb, upd_ne (ne_of_none h8 feb)]
        exact h8
      have k9 : Kp x H H9 := k7.trans k79
      have free : H eb = none := by
        cases q : H eb with
        | none => rfl
        | some o => rw [e8 eb xeb.symm, k7 eb o q xeb.symm] at feb; cases feb
      have ebF : eb ∉ F := fun z => by
        obtain ⟨o, ho⟩ := hF eb z
        rw [free] at ho
        cases ho
      refine k eb H9 ⟨⟨dx, eh, ef, es, sa, by rw [x9, eal]; rfl, k79 _ _ (k57 _ _ (k35 _ _ (by rw [heh, hv_ic]) xeh.symm) xeh.symm) xeh.symm, k79 _ _ (k57 _ _ hef xef.symm) xef.symm, k79 _ _ hes xes.symm, sl1, fun c b hb => ?_, ehF, efF, esF⟩, ⟨[], by rw [e9 eb xeb.symm]; exact upd_same, by simp, fun kv hkv => by simp at hkv⟩, xF, ebF, three, d6, al3, L15, L32⟩ k9 free
      obtain ⟨y1, y2⟩ := hsa7 c b hb
      have bx : b ≠ x := fun z => by rw [z, x7] at y1; cases y1
      exact ⟨k79 _ _ y1 bx, y2⟩
    refine ⟨_, rfl, rd_fld (i := 0) x7 T.k_Ending.cl (T.k_Ending.no 0 _ rfl) nd_Ending rfl rfl ⟨_, rfl, itD (fun h5 => ?_) (fun h5 => ?_)⟩⟩
    · have em : Tc.mostOf d = 1 := if_pos h5
      rw [em] at fin
      refine ⟨_, rfl, st_newK (ks := ks_Ending) x7 T.k_Ending.cl (T.k_Ending.no 5 _ rfl) nd_Ending rfl (by decide) fun H8 x8 e8 => ?_⟩
      intro eb feb
      have xeb : x ≠ eb := ne_of_none x8 feb
      refine ⟨_, rfl, st_newK (ks := ks_Ending) ((upd_ne xeb).trans x8) T.k_Ending.cl (T.k_Ending.no 6 _ rfl) nd_Ending rfl (by decide) fun H9 x9 e9 => ?_⟩
      exact fin H8 eb x8 e8 feb H9 x9 e9
    · have em : Tc.mostOf d = 120 := if_neg h5
      rw [em] at fin
      refine ⟨_, rfl, st_newK (ks := ks_Ending) x7 T.k_Ending.cl (T.k_Ending.no 5 _ rfl) nd_Ending rfl (by decide) fun H8 x8 e8 => ?_⟩
      intro eb feb
      have xeb : x ≠ eb := ne_of_none x8 feb
      refine ⟨_, rfl, st_newK (ks := ks_Ending) ((upd_ne xeb).trans x8) T.k_Ending.cl (T.k_Ending.no 6 _ rfl) nd_Ending rfl (by decide) fun H9 x9 e9 => ?_⟩
      exact fin H8 eb x8 e8 feb H9 x9 e9
end
end Prog
namespace Prog
open PySem L2
/-! ### sure -/
section
variable {P : Program} {w : World} {K : PySem.W.Frag} {mg : Str → Option Value} {base : Heap}
/-- the ending that a game keeps: none, or one that speaks of the game as it stands -/
inductive EndOk (T : Txt K mg) (F : List Addr) (H : Hp) : V → Rc32.Game → List Addr → Prop
  | none {g : Rc32.Game} : EndOk T F H .non g []
  | some {e eb : Addr} {d al : Nat} {h0 : List Nat} {L : Nat} {g : Rc32.Game} (EA : EndAt T F H e eb d al h0 L) (ph : g.phase = .playing ∨ g.phase = .over) (at' : g.phase = .playing → Tc.At d al h0 (Rc32.maskOf g.hands.flatten) g ∧ Tc.Sub L g) : EndOk T F H (.ref e) g [eb]
theorem EndOk.frame {T : Txt K mg} {F : List Addr} {H H' : Hp} {en : V} {g : Rc32.Game} {fe : List Addr} (E : EndOk T F H en g fe) (kp : ∀ b o, H b = Option.some o → b ∉ F → H' b = Option.some o) : EndOk T F H' en g fe := by
  cases E with
  | none => exact .none
  | some EA ph at' => exact .some (EA.frame kp) ph at'
theorem EndOk.out {T : Txt K mg} {F : List Addr} {H : Hp} {en : V} {g : Rc32.Game} {fe : List Addr} (E : EndOk T F H en g fe) : ∀ b, b ∈ fe → b ∉ F ∧ ∃ o, H b = Option.some o := by
  cases E with
  | none => intro b hb; simp at hb
  | some EA ph at' =>
    intro b hb
    simp at hb
    subst hb
    obtain ⟨kvs, h, _⟩ := EA.dict
    exact ⟨EA.bF, _, h⟩
def sureIs (g : Rc32.Game) : Int := if g.phase ≠ .playing then -1 else if 15 < Rc32.left g then -2 else (Rc32.sure (Rc32.left g) g : Nat)
def spSure (T : Txt K mg) : Sp := fun vs H Q _ => ∃ (F : List Addr) (a l t : Addr) (en : V) (p : Tc.PG) (g : Rc32.Game) (fe : List Addr), vs = [.ref a] ∧ GameAt T.k_Game.C H a l t en p ∧ H t = some (.lst (p.trick.map V.int)) ∧ Tc.Wf g ∧ Tc.Rel g p ∧ EndOk T F H en g fe ∧ a ∈ F ∧ l ∈ F ∧ t ∈ F ∧ (∀ b, b ∈ F → ∃ o, H b = some o) ∧
  ∀ (en' : V) (fe' : List Addr) (H' : Hp), GameAt T.k_Game.C H' a l t en' p → H' t = some (.lst (p.trick.map V.int)) → EndOk T F H' en' g fe' → (∀ b, b ∈ fe' → b ∈ fe ∨ H b = none) → (∀ b, b ∈ fe → b ∈ fe') → (∀ b o, H b = some o → b ≠ a → b ∉ fe → H' b = some o) → Q (.int (sureIs g)) H'
theorem flat_three {g : Rc32.Game} (h3 : g.hands.length = 3) : (Rc32.maskOf (Rc32.hand g 0) ||| Rc32.maskOf (Rc32.hand g 1)) ||| Rc32.maskOf (Rc32.hand g 2) = Rc32.maskOf g.hands.flatten := by
  obtain ⟨x, y, z, e⟩ := Tc.three_cases h3
  unfold Rc32.hand
  rw [e, ← Tc.mask_append, ← Tc.mask_append]
  simp
theorem at_start {g : Rc32.Game} {p : Tc.PG} {al : Nat} (w : Tc.Wf g) (R : Tc.Rel g p) (ha : g.alone = some al) : Tc.At g.game al p.hands (Rc32.maskOf g.hands.flatten) g := by
  refine ⟨w, rfl, ha, rfl, fun q hq => ?_⟩
  rw [R.get hq]
  refine (w.base.hand q).of_bits fun c => ?_
  rw [Nat.testBit_and, (w.base.hand q).testBit, w.base.flat.testBit, List.contains_eq_mem, List.contains_eq_mem]
  by_cases h : c ∈ Rc32.hand g q
  · simp [h, Tc.hand_mem h]
  · simp [h]
theorem ok_sure (T : Txt K mg) : FnOk P w K mg base CX0 (lv 30 + 1) T.d_sure.f T.d_sure.fd ["game"] (spSure T) := by
  have nd := sc_sure.nd
  have G_cards_in : FnOk P w K mg base CX0 1 _ _ _ _ := ok_cards_in T
  have G_Ending_init : FnOk P w K mg base CX0 5 _ _ _ _ := ok_Ending_init T
  have G_best_in_trick : FnOk P w K mg base CX0 (lv 30) _ _ _ _ := ok_best_in_trick T 30
  have G_whose_turn : FnOk P w K mg base CX0 1 _ _ _ _ := ok_whose_turn T
  have G_points_so_far : FnOk P w K mg base CX0 2 _ _ _ _ := ok_points_so_far T
  refine T.d_sure.fn.ok sc_sure (fun vs H Q E h => ?_) (fun cdv A outer s H vs Q E hr h => ?_)
  · obtain ⟨F, a, l, t, en, p, g, fe, rfl, _⟩ := h
    rfl
  · obtain ⟨F, a, l, t, en, p, g, fe, rfl, G, ht, wf, R, EO, aF, lF, tF, hF, k⟩ := h
    have G0 := G
    have ne := G.ne
    obtain ⟨⟨dx, h1⟩, hl⟩ := G
    have ta : t ≠ a := ne_of ht h1 (by intro z; cases z)
    have hr_cards_in := hr.mono (show 1 ≤ lv 30 by decide)
    have hr_Ending := hr.mono (show 5 + 1 ≤ lv 30 by decide)
    have hr_best_in_trick := hr
    have hr_whose_turn := hr.mono (show 1 ≤ lv 30 by decide)
    have hr_points_so_far := hr.mono (show 2 ≤ lv 30 by decide)
    refine ⟨_, (pss_cons (ps_if (pt_cmp (pc_neI (pe_fld (pv 0) rfl) (pe_gint rfl T.c_PLAYING))) (pss_one (ps_ret (pe_gint rfl T.c_REFUSED))) pss_nil)
      (pss_cons (ps_set (i := 1) nd rfl (Or.inl rfl) (pe_op op_or (pe_op op_or (pe_ix ix_list (pe_fld (pv 0) rfl) pe_int (fun _ _ => rfl)) (pe_ix ix_list (pe_fld (pv 0) rfl) pe_int (fun _ _ => rfl))) (pe_ix ix_list (pe_fld (pv 0) rfl) pe_int (fun _ _ => rfl))))
      (pss_cons (ps_if (pt_cmp (pc_gt (pe_callB call_len_seq (by rfl) T.nLen PySem.boot_len (pa_cons (pe_def T.d_cards_in G_cards_in hr_cards_in rfl (pa_cons (pv 1) pa_nil)) pa_nil)) (pe_gint rfl T.c_MOST_CARDS))) (pss_one (ps_ret (pe_gint rfl T.c_TOO_MANY_CARDS))) pss_nil)
      (pss_cons (ps_if (pt_cmp (pc_isN (pe_fld (pv 0) rfl))) (pss_one (ps_fld (pv 0) (pe_make T.k_Ending.made G_Ending_init hr_Ending rfl T.k_Ending.glob T.k_Ending.bd .nil pass0 (pa_cons (pv 0) pa_nil)) rfl)) pss_nil)
      (pss_cons (ps_set (i := 2) nd rfl (Or.inl rfl) (pe_def T.d_best_in_trick G_best_in_trick hr_best_in_trick rfl (pa_cons (pe_fld (pv 0) rfl) (pa_cons (pv 1) (pa_cons (pe_fld (pv 0) rfl) (pa_cons (pe_def T.d_whose_turn G_whose_turn hr_whose_turn rfl (pa_cons (pv 0) pa_nil)) (pa_cons pe_int (pa_cons (pe_fld (pe_fld (pv 0) rfl) rfl) pa_nil))))))))
      (pss_one (ps_ret (pe_ifExp (pt_cmp (pc_eqI (pe_fld (pv 0) rfl) (pe_gint rfl T.c_NULL))) (pv 2) (pe_op op_add (pe_def T.d_points_so_far G_points_so_far hr_points_so_far rfl (pa_cons (pv 0) pa_nil)) (pv 2)))))))))), ?_⟩
    refine ⟨_, rfl, rd_fld (i := 2) h1 T.k_Game.cl (T.k_Game.no 2 _ rfl) nd_Game rfl rfl ⟨_, _, rfl, rfl, _, rfl, itN (fun hc => ?_) (fun hc => ?_)⟩⟩
    · have e : sureIs g = -1 := if_pos (fun z => hc (by rw [R.phase, z]; rfl))
      rw [e] at k
      exact k en fe H G0 ht EO (fun b hb => .inl hb) (fun b hb => hb) fun b o x _ _ => x
    have hp : g.phase = .playing := by
      rw [R.phase] at hc
      exact Tc.phase_playing.mp (by omega)
    have e0 : sureIs g = _ := if_neg (fun z => z hp)
    obtain ⟨⟨al, al3, ha⟩, pl⟩ := wf.playing hp
    have hv0 : (hv p)[0]? = some (V.int ((Rc32.maskOf (Rc32.hand g 0) : Nat) : Int)) := by unfold hv; rw [R.hands]; rfl
    have hv1 : (hv p)[1]? = some (V.int ((Rc32.maskOf (Rc32.hand g 1) : Nat) : Int)) := by unfold hv; rw [R.hands]; rfl
    have hv2 : (hv p)[2]? = some (V.int ((Rc32.maskOf (Rc32.hand g 2) : Nat) : Int)) := by unfold hv; rw [R.hands]; rfl
    refine ⟨_, rfl, rd_fld (i := 0) h1 T.k_Game.cl (T.k_Game.no 0 _ rfl) nd_Game rfl rfl ⟨l, _, _, _, rfl, rfl, SqL.of hl, atI_in (j := 0) rfl hv0, _, rfl, rd_fld (i := 0) h1 T.k_Game.cl (T.k_Game.no 0 _ rfl) nd_Game rfl rfl ⟨l, _, _, _, rfl, rfl, SqL.of hl, atI_in (j := 1) rfl hv1, _, _, rfl, rfl, _, rfl, rd_fld (i := 0) h1 T.k_Game.cl (T.k_Game.no 0 _ rfl) nd_Game rfl rfl ⟨l, _, _, _, rfl, rfl, SqL.of hl, atI_in (j := 2) rfl hv2, _, _, rfl, rfl, ?_⟩⟩⟩⟩
    dsimp only
    rw [bor, bor, flat_three wf.base.three]
    have mlt : Rc32.maskOf g.hands.flatten < 2 ^ 32 := Tc.mask_lt _
    have clen : (Tc.mCards (Rc32.maskOf g.hands.flatten)).length = Rc32.left g := by rw [wf.base.flat.cards.length_eq, Tc.left_flat]
    refine ⟨_, rfl, _, rfl, mlt, fun r H1 h1r f1 s1 => ⟨r, _, rfl, .inl (SqL.of h1r), _, _, rfl, rfl, _, rfl, itD (fun h15 => ?_) (fun h15 => ?_)⟩⟩
    · rw [ic_len, clen] at h15
      rw [if_pos (by omega)] at e0
      rw [e0] at k
      exact k en fe H1 (G0.same s1) (s1 _ _ ht) (EO.frame fun b o x _ => s1 _ _ x) (fun b hb => .inl hb) (fun b hb => hb) fun b o x _ _ => s1 _ _ x
    rw [ic_len, clen] at h15
    rw [if_neg (by omega)] at e0
    have M := R.x.mid hp
    have ed : p.declared = some (g.game : Int) := (R.declared hp).1
    have ev : optV p.declared = V.int (g.game : Int) := by rw [ed]; rfl
    have etr : p.trick = ic g.trick := R.x.trick
    have sub0 : ∀ c, c ∈ g.hands.flatten → (Rc32.maskOf g.hands.flatten).testBit c = true := fun c hc => (wf.base.flat.mem_iff c).mpr hc
    have eturn : Tc.mTurn p = Rc32.turn g := Tc.turn_is R hp
    have small : Small p := ⟨M.taken, by rw [R.away]; exact Tc.mask_lt _⟩
    refine ⟨_, rfl, rd_fld (i := 15) (s1 _ _ h1) T.k_Game.cl (T.k_Game.no 15 _ rfl) nd_Game rfl rfl ⟨_, rfl, ?_⟩⟩
    cases EO with
    | none =>
      refine iteT ⟨_, rfl, fun x dxx nx ndx nxd => ?_⟩
      have s2 : Same H1 (upd (upd H1 dxx (.own x)) x (.ins T.k_Ending.C dxx [])) := fun b u z => by rw [upd_ne (ne_of_none z nx), upd_ne (ne_of_none z ndx)]; exact z
      have s12 := s1.trans s2
      have ax : a ≠ x := ne_of_none (s1 _ _ h1) nx
      have xF : x ∉ F := fun z => by
        obtain ⟨o, ho⟩ := hF x z
        rw [s1 _ _ ho] at nx
        cases nx
      have L15 : (Tc.mCards (Rc32.maskOf g.hands.flatten)).length ≤ 15 := by omega
      refine ⟨x, dxx, a, l, t, _, p, g.game, al, Rc32.maskOf g.hands.flatten, F, rfl, upd_same, G0.same s12, ax, by have := pl.game; omega, ed, al3, by rw [R.alone, ha]; rfl, by rw [R.hands]; rfl, (fun b hb => let ⟨o, ho⟩ := hF b hb; ⟨o, s12 _ _ ho⟩), xF, L15, mlt, fun eb H3 EA3 k3 feb => ⟨rfl, ?_⟩⟩
      have k13 : ∀ b o, H b = some o → H3 b = some o := fun b o z => k3 _ _ (s12 _ _ z) fun q => by
        rw [q] at z
        rw [s1 _ _ z] at nx
        cases nx
      refine ⟨_, rfl, st_fldK (i := 15) (k13 _ _ h1) T.k_Game.cl (T.k_Game.no 15 _ rfl) nd_Game rfl rfl (by decide) fun HX hXa hXe => ?_⟩
      have hXa : HX a = some (.ins T.k_Game.C dx (ks_Game.zip (gv l t (.ref x) p))) := hXa
      have EA4 : EndAt T F HX x eb g.game al p.hands (Rc32.maskOf g.hands.flatten) := EA3.frame fun b o z nb => by rw [hXe b (fun q => nb (by rw [q]; exact aF))]; exact z
      have k14 : ∀ b o, H b = some o → b ≠ a → HX b = some o := fun b o z nb => by rw [hXe b nb]; exact k13 b o z
      have AA := at_start wf R ha
      -- comes = best_in_trick(game.ending, left, game.trick, whose_turn(game), 0, game.ending.most)
      have hF4' : ∀ HY, Same HX HY → ∀ b, b ∈ F → ∃ o, HY b = some o := fun HY sX b hb => by
        obtain ⟨o, ho⟩ := hF b hb
        by_cases q : b = a
        · rw [q]; exact ⟨_, sX _ _ hXa⟩
        · exact ⟨o, sX _ _ (k14 b o ho q)⟩
      obtain ⟨dxe, ehe, efe, ese, sae, hex, _⟩ := EA4.obj
      refine ⟨_, rfl, rd_fld (i := 15) hXa T.k_Game.cl (T.k_Game.no 15 _ rfl) nd_Game rfl rfl ⟨_, rfl, _, rfl, rd_fld (i := 12) hXa T.k_Game.cl (T.k_Game.no 12 _ rfl) nd_Game rfl rfl ⟨_, rfl, a, l, t, .ref x, p, rfl, (⟨⟨dx, hXa⟩, k14 _ _ hl ne⟩ : GameAt T.k_Game.C HX a l t (.ref x) p), (k14 _ _ ht ta), trivial, fun H4 s4 => ?_⟩⟩⟩
      have h4 := s4 _ _ hXa
      refine ⟨_, rfl, rd_fld (i := 15) h4 T.k_Game.cl (T.k_Game.no 15 _ rfl) nd_Game rfl rfl ?_⟩
      refine rd_fld (i := 5) (s4 _ _ hex) T.k_Ending.cl (T.k_Ending.no 5 _ rfl) nd_Ending rfl rfl ?_
      dsimp only
      rw [eturn]
      have hF4 : ∀ b, b ∈ F → ∃ o, H4 b = some o := hF4' H4 s4
      have lh : (0 : Int) < Tc.mostOf g.game := by unfold Tc.mostOf; split <;> decide
      refine ⟨F, x, eb, g.game, al, p.hands, (Rc32.maskOf g.hands.flatten), _, t, g.trick, Rc32.turn g, 0, Tc.mostOf g.game, _, rfl, EA4.same s4, by rw [s4 _ _ ((k14 _ _ ht ta)), etr], lh, Int.le_refl _, .mid (n := 30) AA hp sub0 (by omega), hF4, fun rr H5 res E5 kp5 => ?_⟩
      have kp := (Kp.of (eb := eb) s4).trans kp5
      have er := Tc.root_is AA hp M.fit res
      have ebF : eb ∉ F := E5.bF
      have h5 := kp _ _ hXa fun q => ebF (by rw [← q]; exact aF)
      have hl5 := kp _ _ ((⟨⟨dx, hXa⟩, k14 _ _ hl ne⟩ : GameAt T.k_Game.C HX a l t (.ref x) p)).lst fun q => ebF (by rw [← q]; exact lF)
      have ht5 := kp _ _ ((k14 _ _ ht ta)) fun q => ebF (by rw [← q]; exact tF)
      -- return comes if game.declared == NULL else points_so_far(game) + comes
      refine ⟨_, rfl, rd_fld (i := 9) h5 T.k_Game.cl (T.k_Game.no 9 _ rfl) nd_Game rfl rfl ?_⟩
      rw [ev]
      have hsum : ∀ q : Int, (if g.game = 5 then q = rr else q = (Tc.mPoints p : Int) + rr) → q = sureIs g := fun q hq => by
        rw [e0]
        rw [er] at hq
        unfold Tc.toGo at hq
        have epts : g.points = Tc.mPoints p := M.fit.pts
        by_cases h5 : g.game = 5
        · rw [if_pos h5, if_pos h5] at hq; exact hq
        · rw [if_neg h5, if_neg h5] at hq; omega
      refine ⟨_, _, rfl, rfl, _, rfl, itD (fun h55 => ?_) (fun h55 => ?_)⟩
      · refine ⟨_, rfl, ?_⟩
        have er2 := hsum rr (by rw [if_pos (by omega)])
        rw [← er2] at k
        have feb0 : H eb = none := s12.free feb
        exact k (.ref x) [eb] H5 ⟨⟨dx, h5⟩, hl5⟩ ht5 (.some E5 (.inl hp) fun _ => ⟨AA, sub0⟩) (fun b hb => by simp at hb; rw [hb]; exact .inr feb0) (fun b hb => by simp at hb) fun b o z nb _ => kp _ _ (k14 b o z nb) fun q => by rw [q, feb0] at z; cases z
      · refine ⟨_, rfl, a, l, t, .ref x, p, rfl, ⟨⟨dx, h5⟩, hl5⟩, ht5, small, fun H6 s6 => ⟨_, rfl, _, _, rfl, rfl, ?_⟩⟩
        have er2 := hsum ((Tc.mPoints p : Int) + rr) (by rw [if_neg (by omega)])
        rw [← er2] at k
        have feb0 : H eb = none := s12.free feb
        exact k (.ref x) [eb] H6 (GameAt.same ⟨⟨dx, h5⟩, hl5⟩ s6) (s6 _ _ ht5) (.some (E5.same s6) (.inl hp) fun _ => ⟨AA, sub0⟩) (fun b hb => by simp at hb; rw [hb]; exact .inr feb0) (fun b hb => by simp at hb) fun b o z nb _ => s6 _ _ (kp _ _ (k14 b o z nb) fun q => by rw [q, feb0] at z; cases z)
    | some EA3 ph at' =>
      rename_i x eb d al' h0 L
      refine iteF ?_
      obtain ⟨AA, sb⟩ := at' hp
      have edd : g.game = d := AA.game
      have h1e := s1 _ _ h1
      have EA4 := EA3.same s1
      have hl4 := s1 _ _ hl
      have ht4 := s1 _ _ ht
      -- comes = best_in_trick(game.ending, left, game.trick, whose_turn(game), 0, game.ending.most)
      have hF4' : ∀ HX, Same H1 HX → ∀ b, b ∈ F → ∃ o, HX b = some o := fun HX sX b hb => let ⟨o, ho⟩ := hF b hb; ⟨o, sX _ _ (s1 _ _ ho)⟩
      obtain ⟨dxe, ehe, efe, ese, sae, hex, _⟩ := EA4.obj
      refine ⟨_, rfl, rd_fld (i := 15) h1e T.k_Game.cl (T.k_Game.no 15 _ rfl) nd_Game rfl rfl ⟨_, rfl, _, rfl, rd_fld (i := 12) h1e T.k_Game.cl (T.k_Game.no 12 _ rfl) nd_Game rfl rfl ⟨_, rfl, a, l, t, .ref x, p, rfl, (⟨⟨dx, h1e⟩, hl4⟩ : GameAt T.k_Game.C H1 a l t (.ref x) p), ht4, trivial, fun H4 s4 => ?_⟩⟩⟩
      have h4 := s4 _ _ h1e
      refine ⟨_, rfl, rd_fld (i := 15) h4 T.k_Game.cl (T.k_Game.no 15 _ rfl) nd_Game rfl rfl ?_⟩
      refine rd_fld (i := 5) (s4 _ _ hex) T.k_Ending.cl (T.k_Ending.no 5 _ rfl) nd_Ending rfl rfl ?_
      dsimp only
      rw [eturn]
      have hF4 : ∀ b, b ∈ F → ∃ o, H4 b = some o := hF4' H4 s4
      have lh : (0 : Int) < Tc.mostOf d := by unfold Tc.mostOf; split <;> decide
      refine ⟨F, x, eb, d, al', h0, L, _, t, g.trick, Rc32.turn g, 0, Tc.mostOf d, _, rfl, EA4.same s4, by rw [s4 _ _ (ht4), etr], lh, Int.le_refl _, .mid (n := 30) AA hp sb (by omega), hF4, fun rr H5 res E5 kp5 => ?_⟩
      have kp := (Kp.of (eb := eb) s4).trans kp5
      have er := Tc.root_is AA hp M.fit res
      have ebF : eb ∉ F := E5.bF
      have h5 := kp _ _ h1e fun q => ebF (by rw [← q]; exact aF)
      have hl5 := kp _ _ ((⟨⟨dx, h1e⟩, hl4⟩ : GameAt T.k_Game.C H1 a l t (.ref x) p)).lst fun q => ebF (by rw [← q]; exact lF)
      have ht5 := kp _ _ (ht4) fun q => ebF (by rw [← q]; exact tF)
      -- return comes if game.declared == NULL else points_so_far(game) + comes
      refine ⟨_, rfl, rd_fld (i := 9) h5 T.k_Game.cl (T.k_Game.no 9 _ rfl) nd_Game rfl rfl ?_⟩
      rw [ev]
      have hsum : ∀ q : Int, (if g.game = 5 then q = rr else q = (Tc.mPoints p : Int) + rr) → q = sureIs g := fun q hq => by
        rw [e0]
        rw [er] at hq
        unfold Tc.toGo at hq
        have epts : g.points = Tc.mPoints p := M.fit.pts
        by_cases h5 : g.game = 5
        · rw [if_pos h5, if_pos h5] at hq; exact hq
        · rw [if_neg h5, if_neg h5] at hq; omega
      refine ⟨_, _, rfl, rfl, _, rfl, itD (fun h55 => ?_) (fun h55 => ?_)⟩
      · refine ⟨_, rfl, ?_⟩
        have er2 := hsum rr (by rw [if_pos (by omega)])
        rw [← er2] at k
        exact k (.ref x) [eb] H5 ⟨⟨dx, h5⟩, hl5⟩ ht5 (.some E5 (.inl hp) fun _ => ⟨AA, sb⟩) (fun b hb => .inl hb) (fun b hb => hb) fun b o z nb nb2 => kp _ _ (s1 _ _ z) fun q => nb2 (by rw [q]; simp)
      · refine ⟨_, rfl, a, l, t, .ref x, p, rfl, ⟨⟨dx, h5⟩, hl5⟩, ht5, small, fun H6 s6 => ⟨_, rfl, _, _, rfl, rfl, ?_⟩⟩
        have er2 := hsum ((Tc.mPoints p : Int) + rr) (by rw [if_neg (by omega)])
        rw [← er2] at k
        exact k (.ref x) [eb] H6 (GameAt.same ⟨⟨dx, h5⟩, hl5⟩ s6) (s6 _ _ ht5) (.some (E5.same s6) (.inl hp) fun _ => ⟨AA, sb⟩) (fun b hb => .inl hb) (fun b hb => hb) fun b o z nb nb2 => s6 _ _ (kp _ _ (s1 _ _ z) fun q => nb2 (by rw [q]; simp))
end
end Prog
namespace Prog
open PySem L2
/-! ### calls on a game -/
theorem pok_of {g : Rc32.Game} {p : Tc.PG} (w : Tc.Wf g) (R : Tc.Rel g p) : POk p := by
  have wp := w.ph
  unfold Tc.PhOk at wp
  refine ⟨by rw [R.hands]; rfl, fun m hm => ?_, fun h => ?_, fun h => ?_⟩
  · rw [R.hands] at hm
    simp at hm
    rcases hm with z | z | z <;> rw [z] <;> exact Tc.mask_lt _
  · rw [R.phase] at h
    have : ∃ q, q < 3 ∧ g.alone = some q := by
      cases hp : g.phase with
      | bidding b l a => rw [hp] at h; exfalso; cases a <;> simp [Rc32.phaseNumber] at h
      | lastWord => rw [hp] at h; exfalso; simp [Rc32.phaseNumber] at h
      | choosing => rw [hp] at wp; exact wp.2.2.1
      | laying => rw [hp] at wp; obtain ⟨⟨q, h1, h2, _⟩, _⟩ := wp; exact ⟨q, h1, h2⟩
      | declaring => rw [hp] at h; exfalso; simp [Rc32.phaseNumber] at h
      | playing => rw [hp] at h; exfalso; simp [Rc32.phaseNumber] at h
      | over => rw [hp] at h; exfalso; simp [Rc32.phaseNumber] at h
    obtain ⟨q, hq, ha⟩ := this
    rw [R.alone, ha]
    show 0 ≤ (q : Int) ∧ (q : Int) < 3
    omega
  · rw [R.phase] at h
    cases hp : g.phase with
    | bidding b l a =>
      rw [hp] at wp
      obtain ⟨h1, h2⟩ := R.bl b l a hp
      have bl := wp.2.2.1
      rw [h1, h2]
      omega
    | lastWord => rw [hp] at h; exfalso; simp [Rc32.phaseNumber] at h
    | choosing => rw [hp] at h; exfalso; simp [Rc32.phaseNumber] at h
    | laying => rw [hp] at h; exfalso; simp [Rc32.phaseNumber] at h
    | declaring => rw [hp] at h; exfalso; simp [Rc32.phaseNumber] at h
    | playing => rw [hp] at h; exfalso; simp [Rc32.phaseNumber] at h
    | over => rw [hp] at h; exfalso; simp [Rc32.phaseNumber] at h
theorem plok_of {g : Rc32.Game} {p : Tc.PG} (w : Tc.Wf g) (R : Tc.Rel g p) (h6 : p.phase = 6) : PlOk p ∧ p.trick.length < 3 := by
  have hp : g.phase = .playing := by
    rw [R.phase] at h6
    exact Tc.phase_playing.mp (by omega)
  obtain ⟨_, pl⟩ := w.playing hp
  have po := pok_of w R
  refine ⟨⟨po.three, po.small, ⟨g.game, by have := pl.game; omega, (R.declared hp).1⟩, ⟨g.trick, R.x.trick, pl.cards, by have := pl.trick; omega⟩⟩, ?_⟩
  rw [R.x.trick, List.length_map]
  exact pl.trick
theorem hdok_of {g : Rc32.Game} {p : Tc.PG} (w : Tc.Wf g) (R : Tc.Rel g p) : HdOk p := by
  have po := pok_of w R
  exact ⟨po.three, po.small, by rw [R.away]; exact Tc.mask_lt _⟩
theorem small_of {g : Rc32.Game} {p : Tc.PG} (w : Tc.Wf g) (R : Tc.Rel g p) : Small p := by
  refine ⟨?_, by rw [R.away]; exact Tc.mask_lt _⟩
  by_cases hp : g.phase = .playing
  · exact (R.x.mid hp).taken
  · by_cases ho : g.phase = .over ∧ g.alone ≠ none
    · exact (R.x.over ho.1 ho.2).taken
    · have := (R.x.before hp fun z => by
        cases q : g.alone with
        | none => rfl
        | some a => exact absurd ⟨z, by rw [q]; intro y; cases y⟩ ho).2
      rw [this]
      decide
theorem rkok_of {g : Rc32.Game} {p : Tc.PG} (w : Tc.Wf g) (R : Tc.Rel g p) (h7 : p.phase = 7) : p.alone = 3 ∨ ∃ d : Nat, RkOk p d := by
  have ho : g.phase = .over := by
    rw [R.phase] at h7
    exact Tc.phase_over.mp (by omega)
  cases q : g.alone with
  | none => exact .inl (by rw [R.alone, q]; rfl)
  | some a =>
    have E := R.x.over ho (by rw [q]; intro z; cases z)
    have wp := w.ph
    unfold Tc.PhOk at wp
    rw [ho] at wp
    rcases wp with ⟨al, _⟩ | ⟨_, g5, _⟩
    · rw [q] at al; cases al
    · exact .inr ⟨g.game, small_of w R, by omega, E.declared.1, by rw [E.declared.2]; omega⟩
def mv (g : Rc32.Game) : List (List Int) → Option Rc32.Game
  | [[2, x]] => Rc32.speak g (Rc32.natOf x)
  | [[3, yes]] => if g.phase ≠ .choosing then none else if yes = 0 then some { g with phase := .declaring, own := Rc32.hand g (g.alone.getD 0) ++ g.two } else some { g with phase := .laying, byHand := false, own := Rc32.hand g (g.alone.getD 0) ++ g.two, hands := g.hands.set (g.alone.getD 0) (Rc32.hand g (g.alone.getD 0) ++ g.two), two := [] }
  | [[4, a, b]] => if g.phase ≠ .laying ∨ Rc32.natOf a = Rc32.natOf b ∨ (Rc32.hand g (g.alone.getD 0)).contains (Rc32.natOf a) = false ∨ (Rc32.hand g (g.alone.getD 0)).contains (Rc32.natOf b) = false then none
      else some { g with phase := .declaring, two := [Rc32.natOf a, Rc32.natOf b], hands := g.hands.set (g.alone.getD 0) ((Rc32.hand g (g.alone.getD 0)).filter fun c => c != Rc32.natOf a && c != Rc32.natOf b) }
  | [[5, k, said]] => if g.phase ≠ .declaring ∨ 5 < Rc32.natOf k ∨ Rc32.sayable g.byHand (Rc32.natOf k) (Rc32.natOf said) = false then none else some { g with phase := .playing, game := Rc32.natOf k, said := Rc32.natOf said, points := (g.two.map Rc32.points).sum, lead := 0 }
  | [[6, c]] => Rc32.play g (Rc32.natOf c)
  | _ => none
def tl (g : Rc32.Game) : List (List Int) → List Int
  | [[7]] => if g.phase ≠ .playing then [-1] else [((Tc.may g).length : Int), (Rc32.maskOf (Tc.may g) : Int)]
  | [[8, p]] => if p < 0 ∨ 3 < p then [-1] else [((if p = 3 then g.two else Rc32.hand g p.toNat).length : Int), (Rc32.maskOf (if p = 3 then g.two else Rc32.hand g p.toNat) : Int)]
  | [[9]] => [(Rc32.phaseNumber g.phase : Int), (Rc32.turn g : Int), ((g.alone.getD 3 : Nat) : Int), (g.bid : Int), (g.points : Int), (g.tricks : Int), (g.trick.length : Int)]
  | [[10]] => if g.phase ≠ .over then [-1] else [0, ((Rc32.result g).natAbs : Int), ((decide (Rc32.result g < 0)).toNat : Int)]
  | [[11]] => [sureIs g]
  | _ => []
theorem step_move {s : Rc32.Abs} {g : Rc32.Game} (hs : s.game = some g) {u : List Int} {c : List (List Int)} (o : Tc.One u c []) (hc : 2 ≤ u.headD 0 ∧ u.headD 0 ≤ 6) :
    (mv g c = none → Rc32Neutral.step s c = (s, [-1])) ∧ (∀ h, mv g c = some h → Rc32Neutral.step s c = ({ game := some h }, [(Rc32.phaseNumber h.phase : Int)])) := by
  have fin : ∀ (x : Rc32.Call) (m : Option Rc32.Game), Rc32Neutral.callOf c = some x → Rc32.does s x = Rc32.goesOn s m → mv g c = m → (mv g c = none → Rc32Neutral.step s c = (s, [-1])) ∧ (∀ h, mv g c = some h → Rc32Neutral.step s c = ({ game := some h }, [(Rc32.phaseNumber h.phase : Int)])) := fun x m e1 e2 e3 => by
    unfold Rc32Neutral.step
    rw [e1, e3]
    simp only
    rw [e2]
    refine ⟨fun z => by rw [z]; rfl, fun h z => by rw [z]; rfl⟩
  cases o with
  | begin t => simp at hc
  | deal cards t hl hb => simp at hc
  | speak x t => exact fin _ _ rfl (by simp only [Rc32.does, hs]; rfl) rfl
  | take x t => exact fin _ _ rfl (by simp only [Rc32.does, hs]; rfl) rfl
  | lay a b t => exact fin _ _ rfl (by simp only [Rc32.does, hs]; rfl) rfl
  | declare a b t => exact fin _ _ rfl (by simp only [Rc32.does, hs]; rfl) rfl
  | play x t => exact fin _ _ rfl (by simp only [Rc32.does, hs]; rfl) rfl
  | legal t => simp at hc
  | hand x t => simp at hc
  | state t => simp at hc
  | result t => simp at hc
  | sure t => simp at hc
theorem step_tell {s : Rc32.Abs} {g : Rc32.Game} (hs : s.game = some g) {u : List Int} {c : List (List Int)} (o : Tc.One u c []) (hc : 7 ≤ u.headD 0) : Rc32Neutral.step s c = (s, tl g c) := by
  have fin : ∀ (x : Rc32.Call) (A : Rc32.Ans), Rc32Neutral.callOf c = some x → Rc32.does s x = (s, A) → tl g c = A.value :: A.numbers.map (fun (b : Nat) => (b : Int)) → Rc32Neutral.step s c = (s, tl g c) := fun x A e1 e2 e3 => by
    unfold Rc32Neutral.step
    rw [e1, e3]
    simp only
    rw [e2]
  cases o with
  | begin t => simp at hc
  | deal cards t hl hb => simp at hc
  | speak x t => simp at hc
  | take x t => simp at hc
  | lay a b t => simp at hc
  | declare a b t => simp at hc
  | play x t => simp at hc
  | legal t =>
    by_cases h : g.phase ≠ .playing
    · exact fin .legal Rc32.refused rfl (by simp only [Rc32.does, hs]; rw [if_pos h]) (by unfold tl; rw [if_pos h]; rfl)
    · exact fin .legal ⟨_, _⟩ rfl (by simp only [Rc32.does, hs]; rw [if_neg h]) (by unfold tl; rw [if_neg h]; rfl)
  | hand x t =>
    by_cases h : x < 0 ∨ 3 < x
    · exact fin (.hand x) Rc32.refused rfl (by simp only [Rc32.does, hs]; rw [if_pos h]) (by show (if x < 0 ∨ 3 < x then _ else _) = _; rw [if_pos h]; rfl)
    · exact fin (.hand x) ⟨_, _⟩ rfl (by simp only [Rc32.does, hs]; rw [if_neg h]) (by show (if x < 0 ∨ 3 < x then _ else _) = _; rw [if_neg h]; rfl)
  | state t => exact fin .state ⟨_, _⟩ rfl (by simp only [Rc32.does, hs]; rfl) (by unfold tl; rfl)
  | result t =>
    by_cases h : g.phase ≠ .over
    · exact fin .result Rc32.refused rfl (by simp only [Rc32.does, hs]; rw [if_pos h]) (by unfold tl; rw [if_pos h]; rfl)
    · exact fin .result ⟨_, _⟩ rfl (by simp only [Rc32.does, hs]; rw [if_neg h]) (by unfold tl; rw [if_neg h]; rfl)
  | sure t =>
    by_cases h : g.phase ≠ .playing
    · exact fin .sure Rc32.refused rfl (by simp only [Rc32.does, hs]; rw [if_pos h]) (by show [sureIs g] = _; unfold sureIs; rw [if_pos h]; rfl)
    · by_cases h2 : 15 < Rc32.left g
      · exact fin .sure ⟨-2, []⟩ rfl (by simp only [Rc32.does, hs]; rw [if_neg h, if_pos h2]) (by show [sureIs g] = _; unfold sureIs; rw [if_neg h, if_pos h2]; rfl)
      · exact fin .sure ⟨_, []⟩ rfl (by simp only [Rc32.does, hs]; rw [if_neg h, if_neg h2]) (by show [sureIs g] = _; unfold sureIs; rw [if_neg h, if_neg h2]; rfl)
/-- a move on a game -/
def spMove (C : Addr) : Sp := fun vs H Q _ => ∃ (a l t r : Addr) (en : V) (p : Tc.PG) (g : Rc32.Game) (u : List Int) (c : List (List Int)), vs = [.ref a, .ref r] ∧ GameAt C H a l t en p ∧ H t = some (.lst (p.trick.map V.int)) ∧ l ≠ t ∧ Tc.Wf g ∧ Tc.Rel g p ∧ H r = some (.lst (u.map V.int)) ∧ Tc.One u c [] ∧ (2 ≤ u.headD 0 ∧ u.headD 0 ≤ 6) ∧
  ∀ (h : Rc32.Game) (p' : Tc.PG) (t' : Addr) (x : Int) (H' : Hp), ((mv g c = none ∧ h = g ∧ x = -1) ∨ (mv g c = some h ∧ x = (Rc32.phaseNumber h.phase : Int))) → Tc.Rel h p' → GameAt C H' a l t' en p' → H' t' = some (.lst (p'.trick.map V.int)) → (t' = t ∨ H t' = none) → l ≠ t' → (∀ b o, H b = some o → b ≠ a → b ≠ l → b ≠ t → H' b = some o) → Q (.int x) H'
section
variable {P : Program} {w : World} {K : PySem.W.Frag} {mg : Str → Option Value} {base : Heap}
theorem ok_move (T : Txt K mg) : FnOk P w K mg base CX0 7 T.d_move.f T.d_move.fd ["game", "call"] (spMove T.k_Game.C) := by
  have nd := sc_move.nd
  have G_speak : FnOk P w K mg base CX0 4 _ _ _ _ := ok_speak T
  have G_take : FnOk P w K mg base CX0 1 _ _ _ _ := ok_take T
  have G_lay : FnOk P w K mg base CX0 2 _ _ _ _ := ok_lay T
  have G_declare : FnOk P w K mg base CX0 2 _ _ _ _ := ok_declare T
  have G_play : FnOk P w K mg base CX0 6 _ _ _ _ := ok_play T
  refine T.d_move.fn.ok sc_move (fun vs H Q E h => ?_) (fun cdv A outer s H vs Q E hr h => ?_)
  · obtain ⟨a, l, t, r, en, p, g, u, c, rfl, _⟩ := h
    rfl
  · obtain ⟨a, l, t, r, en, p, g, u, c, rfl, G, ht, lt, wf, R, hrr, one, hc, k⟩ := h
    have hr_speak := hr.mono (show 4 ≤ 6 by decide)
    have hr_take := hr.mono (show 1 ≤ 6 by decide)
    have hr_lay := hr.mono (show 2 ≤ 6 by decide)
    have hr_declare := hr.mono (show 2 ≤ 6 by decide)
    have hr_play := hr
    have po := pok_of wf R
    have h1 : ∃ dx, H a = some (.ins T.k_Game.C dx (ks_Game.zip (gv l t en p))) := G.obj
    obtain ⟨dx, h1⟩ := h1
    have ta : t ≠ a := ne_of ht h1 (by intro z; cases z)
    -- what the bidding and the declaration leave
    have easy : ∀ {m : Tc.PG × Int}, Tc.Goes g p (mv g c) m → m.1.trick = p.trick → ∀ H', GameAt T.k_Game.C H' a l t en m.1 → But2 a l H H' → Q (.int m.2) H' := fun {m} go em H' G' b' => by
      have ht' : H' t = some (.lst (m.1.trick.map V.int)) := by rw [em]; exact b' _ _ ht ta lt.symm
      cases q : mv g c with
      | none =>
        rw [q] at go
        have e : m = (p, -1) := go
        rw [e] at G' ht' ⊢
        exact k g p t (-1) H' (.inl ⟨q, rfl, rfl⟩) R G' ht' (.inl rfl) lt fun b o z n1 n2 _ => b' b o z n1 n2
      | some h =>
        rw [q] at go
        obtain ⟨R', e⟩ := go
        exact k h m.1 t m.2 H' (.inr ⟨q, e⟩) R' G' ht' (.inl rfl) lt fun b o z n1 n2 _ => b' b o z n1 n2
    refine ⟨_, (pss_cons (ps_if (pt_cmp (pc_eqI (pe_ix ix_list (pv 1) pe_int (fun _ _ => rfl)) (pe_gint rfl T.c_SPEAK))) (pss_one (ps_ret (pe_def T.d_speak G_speak hr_speak rfl (pa_cons (pv 0) (pa_cons (pe_ix ix_list (pv 1) pe_int (fun _ _ => rfl)) pa_nil))))) pss_nil)
      (pss_cons (ps_if (pt_cmp (pc_eqI (pe_ix ix_list (pv 1) pe_int (fun _ _ => rfl)) (pe_gint rfl T.c_TAKE))) (pss_one (ps_ret (pe_def T.d_take G_take hr_take rfl (pa_cons (pv 0) (pa_cons (pe_ix ix_list (pv 1) pe_int (fun _ _ => rfl)) pa_nil))))) pss_nil)
      (pss_cons (ps_if (pt_cmp (pc_eqI (pe_ix ix_list (pv 1) pe_int (fun _ _ => rfl)) (pe_gint rfl T.c_LAY))) (pss_one (ps_ret (pe_def T.d_lay G_lay hr_lay rfl (pa_cons (pv 0) (pa_cons (pe_ix ix_list (pv 1) pe_int (fun _ _ => rfl)) (pa_cons (pe_ix ix_list (pv 1) pe_int (fun _ _ => rfl)) pa_nil)))))) pss_nil)
      (pss_cons (ps_if (pt_cmp (pc_eqI (pe_ix ix_list (pv 1) pe_int (fun _ _ => rfl)) (pe_gint rfl T.c_DECLARE))) (pss_one (ps_ret (pe_def T.d_declare G_declare hr_declare rfl (pa_cons (pv 0) (pa_cons (pe_ix ix_list (pv 1) pe_int (fun _ _ => rfl)) (pa_cons (pe_ix ix_list (pv 1) pe_int (fun _ _ => rfl)) pa_nil)))))) pss_nil)
      (pss_one (ps_ret (pe_def T.d_play G_play hr_play rfl (pa_cons (pv 0) (pa_cons (pe_ix ix_list (pv 1) pe_int (fun _ _ => rfl)) pa_nil))))))))), ?_⟩
    cases one with
    | begin t => exfalso; simp at hc
    | deal cards t hl hb => exfalso; simp at hc
    | legal t => exfalso; simp at hc
    | hand x t => exfalso; simp at hc
    | state t => exfalso; simp at hc
    | result t => exfalso; simp at hc
    | sure t => exfalso; simp at hc
    | speak x _ =>
      refine ⟨_, rfl, r, _, _, _, rfl, rfl, SqL.of hrr, atI_in (j := 0) rfl rfl, _, _, rfl, rfl, _, rfl, itD (fun _ => ?_) (fun z => absurd rfl z)⟩
      refine ⟨_, rfl, _, rfl, r, _, _, _, rfl, rfl, SqL.of hrr, atI_in (j := 1) rfl rfl, a, l, t, en, p, x, rfl, G, po, trivial, ?_⟩
      exact easy (Tc.sim_speak wf R) (Tc.keep_speak p x)
    | take x _ =>
      refine ⟨_, rfl, r, _, _, _, rfl, rfl, SqL.of hrr, atI_in (j := 0) rfl rfl, _, _, rfl, rfl, _, rfl, itD (fun z => absurd z (by decide)) (fun _ => ?_)⟩
      refine ⟨_, rfl, r, _, _, _, rfl, rfl, SqL.of hrr, atI_in (j := 0) rfl rfl, _, _, rfl, rfl, _, rfl, itD (fun _ => ?_) (fun z => absurd rfl z)⟩
      refine ⟨_, rfl, _, rfl, r, _, _, _, rfl, rfl, SqL.of hrr, atI_in (j := 1) rfl rfl, a, l, t, en, p, x, rfl, G, po, trivial, ?_⟩
      exact easy (Tc.sim_take wf R) (Tc.keep_take p x)
    | lay x y _ =>
      refine ⟨_, rfl, r, _, _, _, rfl, rfl, SqL.of hrr, atI_in (j := 0) rfl rfl, _, _, rfl, rfl, _, rfl, itD (fun z => absurd z (by decide)) (fun _ => ?_)⟩
      refine ⟨_, rfl, r, _, _, _, rfl, rfl, SqL.of hrr, atI_in (j := 0) rfl rfl, _, _, rfl, rfl, _, rfl, itD (fun z => absurd z (by decide)) (fun _ => ?_)⟩
      refine ⟨_, rfl, r, _, _, _, rfl, rfl, SqL.of hrr, atI_in (j := 0) rfl rfl, _, _, rfl, rfl, _, rfl, itD (fun _ => ?_) (fun z => absurd rfl z)⟩
      refine ⟨_, rfl, _, rfl, r, _, _, _, rfl, rfl, SqL.of hrr, atI_in (j := 1) rfl rfl, _, rfl, r, _, _, _, rfl, rfl, SqL.of hrr, atI_in (j := 2) rfl rfl, a, l, t, en, p, x, y, rfl, G, po, ?_⟩
      exact easy (Tc.sim_lay wf R) (Tc.keep_lay p x y)
    | declare x y _ =>
      refine ⟨_, rfl, r, _, _, _, rfl, rfl, SqL.of hrr, atI_in (j := 0) rfl rfl, _, _, rfl, rfl, _, rfl, itD (fun z => absurd z (by decide)) (fun _ => ?_)⟩
      refine ⟨_, rfl, r, _, _, _, rfl, rfl, SqL.of hrr, atI_in (j := 0) rfl rfl, _, _, rfl, rfl, _, rfl, itD (fun z => absurd z (by decide)) (fun _ => ?_)⟩
      refine ⟨_, rfl, r, _, _, _, rfl, rfl, SqL.of hrr, atI_in (j := 0) rfl rfl, _, _, rfl, rfl, _, rfl, itD (fun z => absurd z (by decide)) (fun _ => ?_)⟩
      refine ⟨_, rfl, r, _, _, _, rfl, rfl, SqL.of hrr, atI_in (j := 0) rfl rfl, _, _, rfl, rfl, _, rfl, itD (fun _ => ?_) (fun z => absurd rfl z)⟩
      refine ⟨_, rfl, _, rfl, r, _, _, _, rfl, rfl, SqL.of hrr, atI_in (j := 1) rfl rfl, _, rfl, r, _, _, _, rfl, rfl, SqL.of hrr, atI_in (j := 2) rfl rfl, a, l, t, en, p, x, y, rfl, G, po, ?_⟩
      exact easy (Tc.sim_declare wf R) (Tc.keep_declare p x y)
    | play x _ =>
      refine ⟨_, rfl, r, _, _, _, rfl, rfl, SqL.of hrr, atI_in (j := 0) rfl rfl, _, _, rfl, rfl, _, rfl, itD (fun z => absurd z (by decide)) (fun _ => ?_)⟩
      refine ⟨_, rfl, r, _, _, _, rfl, rfl, SqL.of hrr, atI_in (j := 0) rfl rfl, _, _, rfl, rfl, _, rfl, itD (fun z => absurd z (by decide)) (fun _ => ?_)⟩
      refine ⟨_, rfl, r, _, _, _, rfl, rfl, SqL.of hrr, atI_in (j := 0) rfl rfl, _, _, rfl, rfl, _, rfl, itD (fun z => absurd z (by decide)) (fun _ => ?_)⟩
      refine ⟨_, rfl, r, _, _, _, rfl, rfl, SqL.of hrr, atI_in (j := 0) rfl rfl, _, _, rfl, rfl, _, rfl, itD (fun z => absurd z (by decide)) (fun _ => ?_)⟩
      refine ⟨_, rfl, _, rfl, r, _, _, _, rfl, rfl, SqL.of hrr, atI_in (j := 1) rfl rfl, a, l, t, en, p, x, rfl, G, ht, lt, plok_of wf R, fun hn H' s' => ?_, fun h6 hh hl3 H' G' ht' kp => ?_, fun h6 hh hl3 j t' H' fm G' ht' ft kp => ?_⟩
      · exact k g p t (-1) H' (.inl ⟨Tc.sim_play_no wf R hn, rfl, rfl⟩) R (G.same s') (s' _ _ ht) (.inl rfl) lt fun b o z _ _ _ => s' _ _ z
      · obtain ⟨n, rfl, en', n32, hp, hm⟩ := Tc.sim_play_yes wf R h6 hh
        have tl2 : g.trick.length < 2 := by
          have := (plok_of wf R h6).2
          rw [R.x.trick, List.length_map] at this hl3
          omega
        have e : mv g [[6, (n : Int)]] = some (Tc.next g n) := by show Rc32.play g (Rc32.natOf (n : Int)) = _; rw [← en']; exact Tc.play_next hp hm
        have R' := Tc.rel_put wf R hp hm tl2
        exact k _ _ t _ H' (.inr ⟨e, R'.phase⟩) R' G' ht' (.inl rfl) lt kp
      · obtain ⟨n, rfl, en', n32, hp, hm⟩ := Tc.sim_play_yes wf R h6 hh
        obtain ⟨_, pl⟩ := wf.playing hp
        have etl : p.trick.length = g.trick.length := by rw [R.x.trick, List.length_map]
        have e : mv g [[6, (n : Int)]] = some (Tc.next g n) := by show Rc32.play g (Rc32.natOf (n : Int)) = _; rw [← en']; exact Tc.play_next hp hm
        have hj : j = Rc32.taker g.game (g.trick ++ [n]) := by
          refine Tc.place_is (by have := pl.game; omega) (by rw [List.length_append, List.length_singleton]; omega) (fun z hz => ?_) ?_
          · rcases List.mem_append.mp hz with y | y
            · exact pl.cards z y
            · simp at y; omega
          · have e1 : (Tc.mPut p (n : Int)).trick = (g.trick ++ [n]).map fun (c : Nat) => (c : Int) := by
              show p.trick ++ [(n : Int)] = _
              rw [R.x.trick]
              simp
            unfold Tc.mShown at fm
            rw [e1] at fm
            have e2 : (Tc.mPut p (n : Int)).declared.getD 0 = (g.game : Int) := by show p.declared.getD 0 = _; rw [(R.declared hp).1]; rfl
            rw [e2] at fm
            exact fm
        have R' := Tc.rel_end wf R hp hm (by omega) hj
        have ltt : l ≠ t' := fun z => by rw [← z, G.lst] at ft; cases ft
        have htr : (Tc.mEnd (Tc.mPut p (n : Int)) j).trick = [] := by
          unfold Tc.mEnd Tc.mGain
          split <;> split <;> rfl
        exact k _ _ t' _ H' (.inr ⟨e, R'.phase⟩) R' G' (by rw [htr]; exact ht') (.inr ft) ltt kp
end
end Prog
namespace Prog
open PySem L2
/-! ### what is told of a game -/
section
variable {P : Program} {w : World} {K : PySem.W.Frag} {mg : Str → Option Value} {base : Heap}
def spTell (T : Txt K mg) : Sp := fun vs H Q _ => ∃ (F : List Addr) (a l t r : Addr) (en : V) (p : Tc.PG) (g : Rc32.Game) (fe : List Addr) (u : List Int) (c : List (List Int)), vs = [.ref a, .ref r] ∧ GameAt T.k_Game.C H a l t en p ∧ H t = some (.lst (p.trick.map V.int)) ∧ Tc.Wf g ∧ Tc.Rel g p ∧ EndOk T F H en g fe ∧ a ∈ F ∧ l ∈ F ∧ t ∈ F ∧ (∀ b, b ∈ F → ∃ o, H b = some o) ∧
  H r = some (.lst (u.map V.int)) ∧ Tc.One u c [] ∧ 7 ≤ u.headD 0 ∧
  ∀ (q : Addr) (en' : V) (fe' : List Addr) (H' : Hp), H' q = some (.lst ((tl g c).map V.int)) → H q = none → q ∉ fe' → GameAt T.k_Game.C H' a l t en' p → H' t = some (.lst (p.trick.map V.int)) → EndOk T F H' en' g fe' → (∀ b, b ∈ fe' → b ∈ fe ∨ H b = none) → (∀ b o, H b = some o → b ≠ a → b ∉ fe → H' b = some o) → Q (.ref q) H'
theorem ok_tell (T : Txt K mg) : FnOk P w K mg base CX0 (lv 30 + 2) T.d_tell.f T.d_tell.fd ["game", "call"] (spTell T) := by
  have nd := sc_tell.nd
  have G_legal : FnOk P w K mg base CX0 6 _ _ _ _ := ok_legal T
  have G_hand : FnOk P w K mg base CX0 3 _ _ _ _ := ok_hand T
  have G_state : FnOk P w K mg base CX0 3 _ _ _ _ := ok_state T
  have G_result : FnOk P w K mg base CX0 7 _ _ _ _ := ok_result T
  have G_sure : FnOk P w K mg base CX0 (lv 30 + 1) _ _ _ _ := ok_sure T
  refine T.d_tell.fn.ok sc_tell (fun vs H Q E h => ?_) (fun cdv A outer s H vs Q E hr h => ?_)
  · obtain ⟨F, a, l, t, r, en, p, g, fe, u, c, rfl, _⟩ := h
    rfl
  · obtain ⟨F, a, l, t, r, en, p, g, fe, u, c, rfl, G, ht, wf, R, EO, aF, lF, tF, hF, hrr, one, hc, k⟩ := h
    have hr_legal := hr.mono (show 6 ≤ lv 30 + 1 by decide)
    have hr_hand := hr.mono (show 3 ≤ lv 30 + 1 by decide)
    have hr_state := hr.mono (show 3 ≤ lv 30 + 1 by decide)
    have hr_result := hr.mono (show 7 ≤ lv 30 + 1 by decide)
    have hr_sure := hr
    have easy : ∀ {ns : List Int}, ns = tl g c → ∀ q H', H' q = some (.lst (ns.map V.int)) → H q = none → Same H H' → Q (.ref q) H' := fun {ns} e q H' hq fq s' => by
      refine k q en fe H' (by rw [← e]; exact hq) fq (fun z => ?_) (G.same s') (s' _ _ ht) (EO.frame fun b o x _ => s' _ _ x) (fun b hb => .inl hb) fun b o x _ _ => s' _ _ x
      obtain ⟨_, o, ho⟩ := EO.out q z
      rw [fq] at ho
      cases ho
    refine ⟨_, (pss_cons (ps_if (pt_cmp (pc_eqI (pe_ix ix_list (pv 1) pe_int (fun _ _ => rfl)) (pe_gint rfl T.c_LEGAL))) (pss_one (ps_ret (pe_def T.d_legal G_legal hr_legal rfl (pa_cons (pv 0) pa_nil)))) pss_nil)
      (pss_cons (ps_if (pt_cmp (pc_eqI (pe_ix ix_list (pv 1) pe_int (fun _ _ => rfl)) (pe_gint rfl T.c_HAND))) (pss_one (ps_ret (pe_def T.d_hand G_hand hr_hand rfl (pa_cons (pv 0) (pa_cons (pe_ix ix_list (pv 1) pe_int (fun _ _ => rfl)) pa_nil))))) pss_nil)
      (pss_cons (ps_if (pt_cmp (pc_eqI (pe_ix ix_list (pv 1) pe_int (fun _ _ => rfl)) (pe_gint rfl T.c_STATE))) (pss_one (ps_ret (pe_def T.d_state G_state hr_state rfl (pa_cons (pv 0) pa_nil)))) pss_nil)
      (pss_cons (ps_if (pt_cmp (pc_eqI (pe_ix ix_list (pv 1) pe_int (fun _ _ => rfl)) (pe_gint rfl T.c_RESULT))) (pss_one (ps_ret (pe_def T.d_result G_result hr_result rfl (pa_cons (pv 0) pa_nil)))) pss_nil)
      (pss_one (ps_ret (pe_lst (pa_cons (pe_def T.d_sure G_sure hr_sure rfl (pa_cons (pv 0) pa_nil)) pa_nil)))))))), ?_⟩
    cases one with
    | begin t => exfalso; simp at hc
    | deal cards t hl hb => exfalso; simp at hc
    | speak x t => exfalso; simp at hc
    | take x t => exfalso; simp at hc
    | lay x y t => exfalso; simp at hc
    | declare x y t => exfalso; simp at hc
    | play x t => exfalso; simp at hc
    | legal _ =>
      refine ⟨_, rfl, r, _, _, _, rfl, rfl, SqL.of hrr, atI_in (j := 0) rfl rfl, _, _, rfl, rfl, _, rfl, itD (fun _ => ?_) (fun z => absurd rfl z)⟩
      refine ⟨_, rfl, a, l, t, en, p, rfl, G, ht, fun h6 => (plok_of wf R h6).1, ?_⟩
      refine easy ?_
      show Tc.mLegal p = if g.phase ≠ .playing then _ else _
      by_cases hp : g.phase = .playing
      · rw [if_neg (fun z => z hp)]; exact (Tc.sim_legal wf R).2 hp
      · rw [if_pos hp]; exact (Tc.sim_legal wf R).1 hp
    | hand x _ =>
      refine ⟨_, rfl, r, _, _, _, rfl, rfl, SqL.of hrr, atI_in (j := 0) rfl rfl, _, _, rfl, rfl, _, rfl, itD (fun z => absurd z (by decide)) (fun _ => ?_)⟩
      refine ⟨_, rfl, r, _, _, _, rfl, rfl, SqL.of hrr, atI_in (j := 0) rfl rfl, _, _, rfl, rfl, _, rfl, itD (fun _ => ?_) (fun z => absurd rfl z)⟩
      refine ⟨_, rfl, _, rfl, r, _, _, _, rfl, rfl, SqL.of hrr, atI_in (j := 1) rfl rfl, a, l, t, en, p, x, rfl, G, hdok_of wf R, ?_⟩
      refine easy ?_
      show Tc.mHand p x = if x < 0 ∨ 3 < x then _ else _
      by_cases hx : x < 0 ∨ 3 < x
      · rw [if_pos hx]; exact (Tc.sim_hand wf R).1 hx
      · rw [if_neg hx]; exact (Tc.sim_hand wf R).2 hx
    | state _ =>
      refine ⟨_, rfl, r, _, _, _, rfl, rfl, SqL.of hrr, atI_in (j := 0) rfl rfl, _, _, rfl, rfl, _, rfl, itD (fun z => absurd z (by decide)) (fun _ => ?_)⟩
      refine ⟨_, rfl, r, _, _, _, rfl, rfl, SqL.of hrr, atI_in (j := 0) rfl rfl, _, _, rfl, rfl, _, rfl, itD (fun z => absurd z (by decide)) (fun _ => ?_)⟩
      refine ⟨_, rfl, r, _, _, _, rfl, rfl, SqL.of hrr, atI_in (j := 0) rfl rfl, _, _, rfl, rfl, _, rfl, itD (fun _ => ?_) (fun z => absurd rfl z)⟩
      refine ⟨_, rfl, a, l, t, en, p, rfl, G, ht, small_of wf R, ?_⟩
      exact easy (Tc.sim_state wf R)
    | result _ =>
      refine ⟨_, rfl, r, _, _, _, rfl, rfl, SqL.of hrr, atI_in (j := 0) rfl rfl, _, _, rfl, rfl, _, rfl, itD (fun z => absurd z (by decide)) (fun _ => ?_)⟩
      refine ⟨_, rfl, r, _, _, _, rfl, rfl, SqL.of hrr, atI_in (j := 0) rfl rfl, _, _, rfl, rfl, _, rfl, itD (fun z => absurd z (by decide)) (fun _ => ?_)⟩
      refine ⟨_, rfl, r, _, _, _, rfl, rfl, SqL.of hrr, atI_in (j := 0) rfl rfl, _, _, rfl, rfl, _, rfl, itD (fun z => absurd z (by decide)) (fun _ => ?_)⟩
      refine ⟨_, rfl, r, _, _, _, rfl, rfl, SqL.of hrr, atI_in (j := 0) rfl rfl, _, _, rfl, rfl, _, rfl, itD (fun _ => ?_) (fun z => absurd rfl z)⟩
      refine ⟨_, rfl, a, l, t, en, p, rfl, G, ht, rkok_of wf R, ?_⟩
      refine easy ?_
      show Tc.mResult p = if g.phase ≠ .over then _ else _
      by_cases hp : g.phase = .over
      · rw [if_neg (fun z => z hp)]; exact (Tc.sim_result wf R).2 hp
      · rw [if_pos hp]; exact (Tc.sim_result wf R).1 hp
    | sure _ =>
      refine ⟨_, rfl, r, _, _, _, rfl, rfl, SqL.of hrr, atI_in (j := 0) rfl rfl, _, _, rfl, rfl, _, rfl, itD (fun z => absurd z (by decide)) (fun _ => ?_)⟩
      refine ⟨_, rfl, r, _, _, _, rfl, rfl, SqL.of hrr, atI_in (j := 0) rfl rfl, _, _, rfl, rfl, _, rfl, itD (fun z => absurd z (by decide)) (fun _ => ?_)⟩
      refine ⟨_, rfl, r, _, _, _, rfl, rfl, SqL.of hrr, atI_in (j := 0) rfl rfl, _, _, rfl, rfl, _, rfl, itD (fun z => absurd z (by decide)) (fun _ => ?_)⟩
      refine ⟨_, rfl, r, _, _, _, rfl, rfl, SqL.of hrr, atI_in (j := 0) rfl rfl, _, _, rfl, rfl, _, rfl, itD (fun z => absurd z (by decide)) (fun _ => ?_)⟩
      refine ⟨_, rfl, F, a, l, t, en, p, g, fe, rfl, G, ht, wf, R, EO, aF, lF, tF, hF, fun en' fe' H' G' ht' EO' kf ks kp => ?_⟩
      refine ⟨(by show 1 ≤ sizeLine; decide), fun q fq => ?_⟩
      have s' : Same H' (upd H' q (.lst [V.int (sureIs g)])) := Same.upd fq
      refine k q en' fe' _ upd_same ?_ (fun z => ?_) (G'.same s') (s' _ _ ht') (EO'.frame fun b o x _ => s' _ _ x) kf fun b o x n1 n2 => s' _ _ (kp b o x n1 n2)
      · cases q0 : H q with
        | none => rfl
        | some o =>
          exfalso
          by_cases n1 : q = a
          · rw [n1] at fq
            obtain ⟨dx, h⟩ := G'.obj
            rw [h] at fq
            cases fq
          · by_cases n2 : q ∈ fe
            · obtain ⟨_, o', ho⟩ := EO'.out q (ks q n2)
              rw [fq] at ho
              cases ho
            · rw [kp q o q0 n1 n2] at fq
              cases fq
      · obtain ⟨_, o, ho⟩ := EO'.out q z
        rw [fq] at ho
        cases ho
end

/-! ### the desk -/
section
variable {P : Program} {w : World} {K : PySem.W.Frag} {mg : Str → Option Value} {base : Heap}
/-- X: what else an ending keeps away from -/
inductive DeskAt (T : Txt K mg) (X : List Addr) (H : Hp) (d : Addr) : List Addr → Rc32.Abs → Prop
  | empty {dx : Addr} {s : Rc32.Abs} (hs : s.game = Option.none) (h : H d = Option.some (.ins T.k_Desk.C dx (ks_Desk.zip [.non]))) : DeskAt T X H d [d] s
  | full {dx a l t : Addr} {en : V} {p : Tc.PG} {g : Rc32.Game} {fe : List Addr} {s : Rc32.Abs} (hs : s.game = Option.some g) (wf : Tc.Wf g) (R : Tc.Rel g p) (h : H d = Option.some (.ins T.k_Desk.C dx (ks_Desk.zip [.ref a]))) (G : GameAt T.k_Game.C H a l t en p) (ht : H t = Option.some (.lst (p.trick.map V.int)))
      (da : d ≠ a) (dl : d ≠ l) (dt : d ≠ t) (lt : l ≠ t) (EO : EndOk T (d :: a :: l :: t :: X) H en g fe) : DeskAt T X H d ([d, a, l, t] ++ fe) s
/-- what a call on the desk leaves as it was -/
def Keeps (fp fp' : List Addr) (H H' : Hp) : Prop := (∀ b, b ∈ fp' → b ∈ fp ∨ H b = Option.none) ∧ ∀ b o, H b = Option.some o → b ∉ fp → H' b = Option.some o
theorem DeskAt.obj {T : Txt K mg} {X : List Addr} {H : Hp} {d : Addr} {fp : List Addr} {s : Rc32.Abs} (D : DeskAt T X H d fp s) : ∃ dx v, H d = some (.ins T.k_Desk.C dx (ks_Desk.zip [v])) ∧ d ∈ fp := by
  cases D with
  | empty _ h => exact ⟨_, _, h, by simp⟩
  | full _ _ _ h _ _ _ _ _ _ _ => exact ⟨_, _, h, by simp⟩
theorem DeskAt.mem {T : Txt K mg} {X : List Addr} {H : Hp} {d b : Addr} {fp : List Addr} {s : Rc32.Abs} (D : DeskAt T X H d fp s) (h : b ∈ fp) : ∃ ob, H b = some ob := by
  cases D with
  | empty _ e =>
    simp at h
    rw [h]
    exact ⟨_, e⟩
  | full _ _ _ e G ht _ _ _ _ EO =>
    obtain ⟨⟨dx, g1⟩, g2⟩ := G
    rcases List.mem_append.mp h with h | h
    · simp only [List.mem_cons, List.not_mem_nil, or_false] at h
      rcases h with h | h | h | h <;> rw [h]
      · exact ⟨_, e⟩
      · exact ⟨_, g1⟩
      · exact ⟨_, g2⟩
      · exact ⟨_, ht⟩
    · exact (EO.out b h).2
/-- the bounds and all else that belongs to an ending may stand elsewhere: all that was tracked stays -/
theorem DeskAt.same {T : Txt K mg} {X : List Addr} {H H' : Hp} {d : Addr} {fp : List Addr} {s : Rc32.Abs} (D : DeskAt T X H d fp s) (k : Same H H') : DeskAt T X H' d fp s := by
  cases D with
  | empty hs h => exact .empty hs (k _ _ h)
  | full hs wf R h G ht da dl dt lt EO => exact .full hs wf R (k _ _ h) (G.same k) (k _ _ ht) da dl dt lt (EO.frame fun b o x _ => k _ _ x)
theorem DeskAt.but {T : Txt K mg} {X : List Addr} {H H' : Hp} {d x : Addr} {fp : List Addr} {s : Rc32.Abs} (D : DeskAt T X H d fp s) (hX : x ∈ X) (hx : x ∉ fp) (kp : ∀ b o, H b = some o → b ≠ x → H' b = some o) : DeskAt T X H' d fp s := by
  cases D with
  | empty hs h => exact .empty hs (kp _ _ h fun z => hx (by rw [← z]; simp))
  | full hs wf R h G ht da dl dt lt EO =>
    obtain ⟨⟨dx, g1⟩, g2⟩ := G
    refine .full hs wf R (kp _ _ h fun z => hx (by rw [← z]; simp)) ⟨⟨dx, kp _ _ g1 fun z => hx (by rw [← z]; simp)⟩, kp _ _ g2 fun z => hx (by rw [← z]; simp)⟩ (kp _ _ ht fun z => hx (by rw [← z]; simp)) da dl dt lt (EO.frame fun b o y nb => kp b o y fun z => nb ?_)
    rw [z]
    simp [hX]
def spDeskInit (T : Txt K mg) : Sp := fun vs H Q _ => ∃ (d dx : Addr), vs = [.ref d] ∧ H d = some (.ins T.k_Desk.C dx []) ∧ ∀ H', (∀ X, DeskAt T X H' d [d] {}) → (∀ b o, H b = some o → b ≠ d → H' b = some o) → Q .non H'
theorem ok_Desk_init (T : Txt K mg) : FnOk P w K mg base CX0 1 T.k_Desk.f T.k_Desk.fd ["self"] (spDeskInit T) := by
  have nd := sc_Desk_init.nd
  refine T.k_Desk.fn.ok sc_Desk_init (fun vs H Q E h => ?_) (fun cdv A outer s H vs Q E hr h => ?_)
  · obtain ⟨d, dx, rfl, _⟩ := h
    rfl
  · obtain ⟨d, dx, rfl, h1, k⟩ := h
    refine ⟨_, (pss_one (ps_fld (pv 0) pe_non rfl)), ?_⟩
    refine ⟨_, rfl, st_new (ks := ks_Desk) (vs := []) h1 T.k_Desk.cl (T.k_Desk.no 0 _ rfl) nd_Desk rfl (by decide) ?_⟩
    exact k _ (fun _ => .empty rfl upd_same) fun b o e hb => by rw [upd_ne hb]; exact e
end
end Prog
namespace Prog
open PySem L2
/-! ### the deal -/
def spWhole (K : PySem.W.Frag) : Sp := fun vs H Q _ => ∃ (r : Addr) (cards : List Int), vs = [.ref r] ∧ SqL K H r (cards.map V.int) ∧ cards.length = 32 ∧ (∀ z, z ∈ cards → 0 ≤ z ∧ z < 256) ∧
  ∀ H', Same H H' → Q (.bl (Rc32.whole (Rc32Neutral.natsOf cards))) H'
def spGameInit (K : PySem.W.Frag) (C : Addr) : Sp := fun vs H Q _ => ∃ (a dx r : Addr) (cards : List Int), vs = [.ref a, .ref r] ∧ H a = some (.ins C dx []) ∧ H r = some (.lst (cards.map V.int)) ∧ (∀ z, z ∈ cards → 0 ≤ z ∧ z < 256) ∧
  ∀ l t H', GameAt C H' a l t .non (Tc.mGame cards) → H' t = some (.lst []) → H l = none → H t = none → l ≠ t → (∀ b o, H b = some o → b ≠ a → H' b = some o) → Q .non H'
section
variable {P : Program} {w : World} {K : PySem.W.Frag} {mg : Str → Option Value} {base : Heap}
theorem ok_is_whole_deck (T : Txt K mg) : FnOk P w K mg base CX0 1 T.d_is_whole_deck.f T.d_is_whole_deck.fd ["cards"] (spWhole K) := by
  have nd := sc_is_whole_deck.nd
  refine T.d_is_whole_deck.fn.ok sc_is_whole_deck (fun vs H Q E h => ?_) (fun cdv A outer s H vs Q E hr h => ?_)
  · obtain ⟨r, cards, rfl, _⟩ := h
    rfl
  · obtain ⟨r, cards, rfl, hs, hl, hb, k⟩ := h
    refine ⟨_, (pss_one (ps_ret (pe_cmpR (op_eqD hr.units) (pe_callB cr_sorted (by rfl) T.nSorted PyProof.Rows.boot_sorted (pa_cons (pv 0) pa_nil)) (pe_callTy (call_list_rng rfl) (by rfl) T.nList PyProof.Rows.boot_list (pa_cons (pe_callTy call_rng (by rfl) T.nRange PyProof.Rows.boot_range (pa_cons (pe_gint rfl T.c_ALL_CARDS) pa_nil)) pa_nil)) (nomark _)))), ?_⟩
    refine ⟨_, rfl, r, cards, rfl, hs, by omega, fun ns p hp ho fp => ?_⟩
    refine ⟨32, rfl, fun q fq => ⟨q, 32, rfl, upd_same, by decide, fun t ft => ?_⟩⟩
    have pq : p ≠ q := ne_of_none upd_same fq
    have pt : p ≠ t := by
      intro z
      subst z
      rw [upd_ne pq, upd_same] at ft
      cases ft
    refine ⟨_, _, dp_ints (ns := ns) (SqL.of (by rw [upd_ne pt, upd_ne pq, upd_same])), dp_ints (ns := Tc.deck) (SqL.of (upd_same.trans (by rfl))), shaped_ints _, shaped_ints _, ?_⟩
    have e : PyData.eqv (.list (ns.map PyData.int)) (.list (Tc.deck.map PyData.int)) = Rc32.whole (Rc32Neutral.natsOf cards) := by
      rw [eqv_ints]
      cases q2 : Rc32.whole (Rc32Neutral.natsOf cards) with
      | true => exact decide_eq_true ((Tc.whole_sorted hl hb hp ho).mpr q2)
      | false => exact decide_eq_false fun z => by rw [(Tc.whole_sorted hl hb hp ho).mp z] at q2; cases q2
    rw [e]
    refine k _ fun b o eb => ?_
    have b1 := ne_of_none eb fp
    have eb2 : upd H p (.lst (ns.map V.int)) b = some o := by rw [upd_ne b1]; exact eb
    have b2 := ne_of_none eb2 fq
    have eb3 : upd (upd H p (.lst (ns.map V.int))) q (.rng 0 32) b = some o := by rw [upd_ne b2]; exact eb2
    rw [upd_ne (ne_of_none eb3 ft)]
    exact eb3
theorem cut_ints_to {cards : List Int} {k : Nat} : cutV (cards.map V.int) none (some (k : Int)) = (cards.take k).map V.int := by rw [cut_to, List.map_take]
theorem cut_ints_from {cards : List Int} {k : Nat} : cutV (cards.map V.int) (some (k : Int)) none = (cards.drop k).map V.int := by rw [cut_from, List.map_drop]
theorem cut_ints_mid {cards : List Int} {j k : Nat} (h : j ≤ k) : cutV (cards.map V.int) (some (j : Int)) (some (k : Int)) = ((cards.drop j).take (k - j)).map V.int := by rw [cut_mid h, List.map_take, List.map_drop]
theorem ok_Game_init (T : Txt K mg) : FnOk P w K mg base CX0 2 T.k_Game.f T.k_Game.fd ["self", "cards"] (spGameInit K T.k_Game.C) := by
  have nd := sc_Game_init.nd
  have G_set_of : FnOk P w K mg base CX0 1 _ _ _ _ := ok_set_of T
  refine T.k_Game.fn.ok sc_Game_init (fun vs H Q E h => ?_) (fun cdv A outer s H vs Q E hr h => ?_)
  · obtain ⟨a, dx, r, cards, rfl, _⟩ := h
    rfl
  · obtain ⟨a, dx, r, cards, rfl, h1, hs0, hb, k⟩ := h
    have hs : SqL K H r (cards.map V.int) := SqL.of hs0
    have nra : r ≠ a := ne_of hs0 h1 (by intro z; cases z)
    have hr_set_of := hr
    have bd : ∀ {l : List Int}, (∀ z, z ∈ l → z ∈ cards) → ∀ c, c ∈ l → 0 ≤ c ∧ c ≤ 1000 := fun h c hc => by have := hb c (h c hc); omega
    refine ⟨_, (pss_cons (ps_fld (pv 0) (pe_lst (pa_cons (pe_def T.d_set_of G_set_of hr_set_of rfl (pa_cons (pe_slice sl_list (pv 1) po_none (po_some pe_int)) pa_nil)) (pa_cons (pe_def T.d_set_of G_set_of hr_set_of rfl (pa_cons (pe_slice sl_list (pv 1) (po_some pe_int) (po_some pe_int)) pa_nil)) (pa_cons (pe_def T.d_set_of G_set_of hr_set_of rfl (pa_cons (pe_slice sl_list (pv 1) (po_some pe_int) (po_some pe_int)) pa_nil)) pa_nil)))) rfl)
      (pss_cons (ps_fld (pv 0) (pe_def T.d_set_of G_set_of hr_set_of rfl (pa_cons (pe_slice sl_list (pv 1) (po_some pe_int) po_none) pa_nil)) rfl)
      (pss_cons (ps_fld (pv 0) (pe_gint rfl T.c_VALUE_AWAITED) rfl)
      (pss_cons (ps_fld (pv 0) pe_int rfl)
      (pss_cons (ps_fld (pv 0) pe_int rfl)
      (pss_cons (ps_fld (pv 0) pe_int rfl)
      (pss_cons (ps_fld (pv 0) (pe_gint rfl T.c_NOBODY) rfl)
      (pss_cons (ps_fld (pv 0) pe_int rfl)
      (pss_cons (ps_fld (pv 0) pe_bl rfl)
      (pss_cons (ps_fld (pv 0) pe_non rfl)
      (pss_cons (ps_fld (pv 0) pe_int rfl)
      (pss_cons (ps_fld (pv 0) pe_int rfl)
      (pss_cons (ps_fld (pv 0) (pe_lst pa_nil) rfl)
      (pss_cons (ps_fld (pv 0) pe_int rfl)
      (pss_cons (ps_fld (pv 0) pe_int rfl)
      (pss_one (ps_fld (pv 0) pe_non rfl))))))))))))))))), ?_⟩
    -- self.hands = [set_of(cards[:10]), set_of(cards[10:20]), set_of(cards[20:30])]
    refine ⟨_, rfl, _, rfl, r, _, rfl, hs, fun q1 f1 => ⟨q1, cards.take 10, rfl, SqL.of (upd_same.trans (congrArg (fun z => some (HO.lst z)) (cut_ints_to (k := 10)))), bd fun z hz => List.mem_of_mem_take hz, ?_⟩⟩
    have s1 : Same H (upd H q1 (.lst (cutV (cards.map V.int) none (some 10)))) := Same.upd f1
    refine ⟨_, rfl, _, rfl, _, rfl, r, _, rfl, s1.seq hs, fun q2 f2 => ⟨q2, (cards.drop 10).take 10, rfl, SqL.of (upd_same.trans (congrArg (fun z => some (HO.lst z)) (cut_ints_mid (j := 10) (k := 20) (by decide)))), bd fun z hz => List.mem_of_mem_drop (List.mem_of_mem_take hz), ?_⟩⟩
    have s2 := s1.trans (Same.upd (o := .lst (cutV (cards.map V.int) (some 10) (some 20))) f2)
    refine ⟨_, rfl, _, rfl, _, rfl, r, _, rfl, s2.seq hs, fun q3 f3 => ⟨q3, (cards.drop 20).take 10, rfl, SqL.of (upd_same.trans (congrArg (fun z => some (HO.lst z)) (cut_ints_mid (j := 20) (k := 30) (by decide)))), bd fun z hz => List.mem_of_mem_drop (List.mem_of_mem_take hz), ?_⟩⟩
    have s3 := s2.trans (Same.upd (o := .lst (cutV (cards.map V.int) (some 20) (some 30))) f3)
    refine ⟨(by show 3 ≤ sizeLine; decide), fun l fl => ?_⟩
    have s4 := s3.trans (Same.upd (o := .lst [V.int (Tc.mSetOf (cards.take 10) : Nat), V.int (Tc.mSetOf ((cards.drop 10).take 10) : Nat), V.int (Tc.mSetOf ((cards.drop 20).take 10) : Nat)]) fl)
    have al : a ≠ l := ne_of_none (s3 _ _ h1) fl
    refine ⟨_, rfl, st_new (ks := ks_Game) (vs := []) (s4 _ _ h1) T.k_Game.cl (T.k_Game.no 0 _ rfl) nd_Game rfl (by decide) ?_⟩
    refine ⟨_, rfl, _, rfl, r, _, rfl, (s4.seq hs).ne nra, fun q4 f4 => ⟨q4, cards.drop 30, rfl, SqL.of (upd_same.trans (congrArg (fun z => some (HO.lst z)) (cut_ints_from (k := 30)))), bd fun z hz => List.mem_of_mem_drop hz, ?_⟩⟩
    have aq : a ≠ q4 := ne_of_none upd_same f4
    have lq : l ≠ q4 := by
      intro z
      subst z
      rw [upd_ne al.symm, upd_same] at f4
      cases f4
    refine ⟨_, rfl, st_new (ks := ks_Game) (vs := [V.ref l]) (by rw [upd_ne aq]; exact upd_same) T.k_Game.cl (T.k_Game.no 1 _ rfl) nd_Game rfl (by decide) ?_⟩
    refine ⟨_, rfl, st_newU T.k_Game.cl (T.k_Game.no 2 _ rfl) nd_Game rfl (by decide) ?_⟩
    refine ⟨_, rfl, st_newU T.k_Game.cl (T.k_Game.no 3 _ rfl) nd_Game rfl (by decide) ?_⟩
    refine ⟨_, rfl, st_newU T.k_Game.cl (T.k_Game.no 4 _ rfl) nd_Game rfl (by decide) ?_⟩
    refine ⟨_, rfl, st_newU T.k_Game.cl (T.k_Game.no 5 _ rfl) nd_Game rfl (by decide) ?_⟩
    refine ⟨_, rfl, st_newU T.k_Game.cl (T.k_Game.no 6 _ rfl) nd_Game rfl (by decide) ?_⟩
    refine ⟨_, rfl, st_newU T.k_Game.cl (T.k_Game.no 7 _ rfl) nd_Game rfl (by decide) ?_⟩
    refine ⟨_, rfl, st_newU T.k_Game.cl (T.k_Game.no 8 _ rfl) nd_Game rfl (by decide) ?_⟩
    refine ⟨_, rfl, st_newU T.k_Game.cl (T.k_Game.no 9 _ rfl) nd_Game rfl (by decide) ?_⟩
    refine ⟨_, rfl, st_newU T.k_Game.cl (T.k_Game.no 10 _ rfl) nd_Game rfl (by decide) ?_⟩
    refine ⟨_, rfl, st_newU T.k_Game.cl (T.k_Game.no 11 _ rfl) nd_Game rfl (by decide) ?_⟩
    refine ⟨(by show 0 ≤ sizeLine; decide), fun t ft => ?_⟩
    have at' : a ≠ t := ne_of_none upd_same ft
    refine ⟨_, rfl, st_new (ks := ks_Game) ((upd_ne at').trans upd_same) T.k_Game.cl (T.k_Game.no 12 _ rfl) nd_Game rfl (by decide) ?_⟩
    refine ⟨_, rfl, st_newU T.k_Game.cl (T.k_Game.no 13 _ rfl) nd_Game rfl (by decide) ?_⟩
    refine ⟨_, rfl, st_newU T.k_Game.cl (T.k_Game.no 14 _ rfl) nd_Game rfl (by decide) ?_⟩
    refine ⟨_, rfl, st_newU T.k_Game.cl (T.k_Game.no 15 _ rfl) nd_Game rfl (by decide) ?_⟩
    have lt' : l ≠ t := by
      intro z
      subst z
      rw [upd_ne al.symm, upd_ne lq, upd_ne al.symm, upd_same] at ft
      cases ft
    have keep : ∀ b o, H b = some o → b ≠ a → b ≠ q4 ∧ b ≠ t := fun b o e hb => by
      have eb := s4 b o e
      have bq : b ≠ q4 := by
        intro z
        subst z
        rw [upd_ne hb, eb] at f4
        cases f4
      refine ⟨bq, fun z => ?_⟩
      subst z
      rw [upd_ne hb, upd_ne bq, upd_ne hb, eb] at ft
      cases ft
    have ft0 : H t = none := by
      cases q0 : H t with
      | none => rfl
      | some o => exact absurd rfl (keep t o q0 at'.symm).2
    refine k l t _ ⟨⟨dx, upd_same⟩, ?_⟩ (by rw [upd_ne at'.symm]; exact upd_same) (s3.free fl) ft0 lt' fun b o e hb => ?_
    · rw [upd_ne al.symm, upd_ne lt', upd_ne al.symm, upd_ne lq, upd_ne al.symm, upd_same]
      rfl
    · obtain ⟨bq, bt⟩ := keep b o e hb
      rw [upd_ne hb, upd_ne bt, upd_ne hb, upd_ne bq, upd_ne hb]
      exact s4 b o e
def dealt (s : Rc32.Abs) (cards : List Int) : Rc32.Abs × Int := if Rc32.whole (Rc32Neutral.natsOf cards) = true then ({ game := some { hands := [(Rc32Neutral.natsOf cards).take 10, ((Rc32Neutral.natsOf cards).drop 10).take 10, ((Rc32Neutral.natsOf cards).drop 20).take 10], two := ((Rc32Neutral.natsOf cards).drop 30).take 2, phase := .bidding 1 0 false } }, 0) else (s, -1)
def spDeal (T : Txt K mg) : Sp := fun vs H Q _ => ∃ (X : List Addr) (d r : Addr) (fp : List Addr) (s : Rc32.Abs) (cards : List Int), vs = [.ref d, .ref r] ∧ DeskAt T X H d fp s ∧ H r = some (.lst (cards.map V.int)) ∧ cards.length = 32 ∧ (∀ z, z ∈ cards → 0 ≤ z ∧ z < 256) ∧
  ∀ fp' H', DeskAt T X H' d fp' (dealt s cards).1 → Keeps fp fp' H H' → Q (.int (dealt s cards).2) H'
theorem ok_deal (T : Txt K mg) : FnOk P w K mg base CX0 4 T.d_deal.f T.d_deal.fd ["desk", "cards"] (spDeal T) := by
  have nd := sc_deal.nd
  have G_is_whole_deck : FnOk P w K mg base CX0 1 _ _ _ _ := ok_is_whole_deck T
  have G_Game_init : FnOk P w K mg base CX0 2 _ _ _ _ := ok_Game_init T
  refine T.d_deal.fn.ok sc_deal (fun vs H Q E h => ?_) (fun cdv A outer s H vs Q E hr h => ?_)
  · obtain ⟨X, d, r, fp, o, cards, rfl, _⟩ := h
    rfl
  · obtain ⟨X, d, r, fp, st, cards, rfl, D, hs, hl, hb, k⟩ := h
    have hr_is_whole_deck := hr.mono (show 1 ≤ 3 by decide)
    have hr_Game := hr
    refine ⟨_, (pss_cons (ps_if (pt_not (pt_val (pe_def T.d_is_whole_deck G_is_whole_deck hr_is_whole_deck rfl (pa_cons (pv 1) pa_nil)))) (pss_one (ps_ret (pe_gint rfl T.c_REFUSED))) pss_nil)
      (pss_cons (ps_fld (pv 0) (pe_make T.k_Game.made G_Game_init hr_Game rfl T.k_Game.glob T.k_Game.bd .nil pass0 (pa_cons (pv 1) pa_nil)) rfl)
      (pss_one (ps_ret (pe_gint rfl T.c_DONE))))), ?_⟩
    refine ⟨_, rfl, r, cards, rfl, SqL.of hs, hl, hb, fun H1 s1 => ⟨_, rfl, ?_⟩⟩
    cases hw : Rc32.whole (Rc32Neutral.natsOf cards) with
    | false =>
      refine iteT ?_
      have e : dealt st cards = (st, -1) := if_neg (by rw [hw]; decide)
      rw [e] at k
      exact k fp H1 (D.same s1) ⟨fun b hb => .inl hb, fun b u e _ => s1 b u e⟩
    | true =>
      refine iteF ?_
      have e : dealt st cards = _ := if_pos hw
      rw [e] at k
      refine ⟨_, rfl, fun x dx nx ndx nxd => ?_⟩
      have s2 : Same H1 (upd (upd H1 dx (.own x)) x (.ins T.k_Game.C dx [])) := fun b u e => by
        rw [upd_ne (ne_of_none e nx), upd_ne (ne_of_none e ndx)]
        exact e
      have s12 := s1.trans s2
      refine ⟨x, dx, r, cards, rfl, upd_same, s12 _ _ hs, hb, fun l t H2 G2 ht2 fl ft lt k2 => ⟨rfl, ?_⟩⟩
      obtain ⟨dd, v, hd, hdf⟩ := D.obj
      have dnx : d ≠ x := ne_of_none (s1 _ _ hd) nx
      have dnl : d ≠ l := ne_of_none (s12 _ _ hd) fl
      have dnt : d ≠ t := ne_of_none (s12 _ _ hd) ft
      have hd2 : H2 d = some (.ins T.k_Desk.C dd (ks_Desk.zip [v])) := k2 _ _ (s12 _ _ hd) dnx
      refine ⟨_, rfl, st_fld (i := 0) hd2 T.k_Desk.cl (T.k_Desk.no 0 _ rfl) nd_Desk rfl rfl (by decide) ?_⟩
      obtain ⟨⟨g1, g2⟩, g3⟩ := G2
      refine k ([d, x, l, t] ++ []) _ (.full (a := x) (l := l) (t := t) (en := .non) rfl (Tc.ofDeal (by rw [show (Rc32Neutral.natsOf cards).length = cards.length from List.length_map _]; exact hl) hw) (Tc.sim_deal hl hb hw) upd_same ⟨⟨g1, by rw [upd_ne dnx.symm]; exact g2⟩, by rw [upd_ne dnl.symm]; exact g3⟩ (by rw [upd_ne dnt.symm]; exact ht2) dnx dnl dnt lt .none) ⟨fun b hb => ?_, fun b u e hb => ?_⟩
      · simp only [List.append_nil, List.mem_cons, List.not_mem_nil, or_false] at hb
        rcases hb with rfl | rfl | rfl | rfl
        · exact .inl hdf
        · exact .inr (s1.free nx)
        · exact .inr (s12.free fl)
        · exact .inr (s12.free ft)
      · have bd : b ≠ d := fun z => hb (by rw [z]; exact hdf)
        rw [upd_ne bd]
        exact k2 _ _ (s12 _ _ e) (ne_of_none (s1 _ _ e) nx)
end
end Prog
namespace Prog
open PySem L2
/-! ### reading the calls -/
def told : List Int := [0, 0, 1, 1, 2, 2, 1, 0, 1, 0, 0, 0]
theorem one_told {s t : List Int} {c : List (List Int)} (o : Tc.One s c t) :
    (∃ r, s = 1 :: 32 :: r ∧ s.length = 34 + t.length) ∨ (∃ (p : Nat) (r : List Int) (n : Nat), s = (p : Int) :: r ∧ p ≠ 1 ∧ p < 12 ∧ told[p]? = some (n : Int) ∧ s.length = 1 + n + t.length) := by
  cases o with
  | deal cards t hl hb => exact .inl ⟨_, rfl, by simp [hl]; omega⟩
  | begin t => exact .inr ⟨0, _, 0, rfl, by decide, by decide, rfl, by simp; omega⟩
  | speak x t => exact .inr ⟨2, _, 1, rfl, by decide, by decide, rfl, by simp; omega⟩
  | take x t => exact .inr ⟨3, _, 1, rfl, by decide, by decide, rfl, by simp; omega⟩
  | lay a b t => exact .inr ⟨4, _, 2, rfl, by decide, by decide, rfl, by simp; omega⟩
  | declare a b t => exact .inr ⟨5, _, 2, rfl, by decide, by decide, rfl, by simp; omega⟩
  | play x t => exact .inr ⟨6, _, 1, rfl, by decide, by decide, rfl, by simp; omega⟩
  | legal t => exact .inr ⟨7, _, 0, rfl, by decide, by decide, rfl, by simp; omega⟩
  | hand x t => exact .inr ⟨8, _, 1, rfl, by decide, by decide, rfl, by simp; omega⟩
  | state t => exact .inr ⟨9, _, 0, rfl, by decide, by decide, rfl, by simp; omega⟩
  | result t => exact .inr ⟨10, _, 0, rfl, by decide, by decide, rfl, by simp; omega⟩
  | sure t => exact .inr ⟨11, _, 0, rfl, by decide, by decide, rfl, by simp; omega⟩
theorem drop_get {l r : List Int} {k i : Nat} {x : Int} (h : l.drop k = r) (hx : r[i]? = some x) : (l.map V.int)[k + i]? = some (V.int x) := by
  rw [List.getElem?_map, ← List.getElem?_drop, h, hx]
  rfl
def spEnd (K : PySem.W.Frag) : Sp := fun vs H Q _ => ∃ (r : Addr) (l : List Int) (k : Nat) (c : List (List Int)) (t : List Int), vs = [.ref r, .int (k : Int)] ∧ SqL K H r (l.map V.int) ∧ Tc.One (l.drop k) c t ∧
  Q (.int ((l.length - t.length : Nat) : Int)) H
section
variable {P : Program} {w : World} {K : PySem.W.Frag} {mg : Str → Option Value} {base : Heap}
theorem ok_end_of_call (T : Txt K mg) : FnOk P w K mg base CX0 1 T.d_end_of_call.f T.d_end_of_call.fd ["calls", "at"] (spEnd K) := by
  have nd := sc_end_of_call.nd
  refine T.d_end_of_call.fn.ok sc_end_of_call (fun vs H Q E h => ?_) (fun cdv A outer s H vs Q E hr h => ?_)
  · obtain ⟨r, l, k, c, t, rfl, _⟩ := h
    rfl
  · obtain ⟨r, l, j, c, t, rfl, hs, o, k⟩ := h
    have hlen := List.length_drop (i := j) (l := l)
    refine ⟨_, (pss_cons (ps_if (pt_cmp (pc_eqI (pe_ix ix_list (pv 0) (pv 1) (fun _ _ => rfl)) (pe_gint rfl T.c_DEAL))) (pss_one (ps_ret (pe_op op_add (pe_op op_add (pv 1) pe_int) (pe_callB (call_max2 rfl) (by rfl) T.nMax PyProof.Rows.boot_max (pa_cons pe_int (pa_cons (pe_ix ix_list (pv 0) (pe_op op_add (pv 1) pe_int) (fun _ _ => rfl)) pa_nil)))))) pss_nil)
      (pss_one (ps_ret (pe_op op_add (pe_op op_add (pv 1) pe_int) (pe_ix ix_tup (pe_gseq rfl T.c_NUMBERS_TOLD) (pe_ix ix_list (pv 0) (pv 1) (fun _ _ => rfl)) (fun _ _ => rfl)))))), ?_⟩
    rcases one_told o with ⟨q, e, n⟩ | ⟨p, q, n, e, p1, p12, ht, hn⟩
    · refine ⟨_, rfl, _, rfl, r, _, _, _, rfl, rfl, hs, atI_in (j := j) rfl (drop_get (i := 0) e rfl), _, _, rfl, rfl, _, rfl, itD (fun _ => ?_) (fun z => absurd rfl z)⟩
      refine ⟨_, rfl, _, _, rfl, rfl, _, rfl, _, rfl, _, _, rfl, rfl, r, _, _, _, rfl, rfl, hs, atI_in (j := j + 1) rfl (drop_get (i := 1) e rfl), _, _, rfl, _, _, rfl, rfl, ?_⟩
      have e2 : (j : Int) + 2 + (if (32 : Int) > 0 then 32 else 0) = ((l.length - t.length : Nat) : Int) := by
        rw [if_pos (by decide)]
        omega
      rw [← e2] at k
      exact k
    · have hp : ¬ (p : Int) = 1 := by omega
      refine ⟨_, rfl, _, rfl, r, _, _, _, rfl, rfl, hs, atI_in (j := j) rfl (drop_get (i := 0) e rfl), _, _, rfl, rfl, _, rfl, itD (fun z => absurd z hp) (fun _ => ?_)⟩
      have hv : (told.map V.int)[p]? = some (V.int (n : Int)) := by rw [List.getElem?_map, ht]; rfl
      refine ⟨_, rfl, _, _, rfl, rfl, fun a ha => ⟨_, rfl, _, rfl, r, _, _, _, rfl, rfl, hs, atI_in (j := j) rfl (drop_get (i := 0) e rfl), a, _, _, _, rfl, rfl, ha _, atI_in (j := p) rfl hv, _, _, rfl, rfl, ?_⟩⟩
      have e2 : (j : Int) + 1 + (n : Int) = ((l.length - t.length : Nat) : Int) := by omega
      rw [← e2] at k
      exact k
end
end Prog
namespace Prog
open PySem L2
/-! ### the calls one after another (with answer_call's promise as a premise) -/
/-- the list that was handed in -/
def Src (K : PySem.W.Frag) (H : Hp) (r : Addr) (xs : List V) (fp : List Addr) : Prop := (Rd H r (.lst xs) ∧ r ∉ fp) ∨ ∀ H', SqL K H' r xs
theorem Src.sq {K : PySem.W.Frag} {H : Hp} {r : Addr} {xs : List V} {fp : List Addr} (h : Src K H r xs fp) : SqL K H r xs := by
  rcases h with ⟨h, _⟩ | h
  · exact .inl h
  · exact h H
theorem Src.keep {K : PySem.W.Frag} {H H' : Hp} {r : Addr} {xs : List V} {fp fp' : List Addr} (h : Src K H r xs fp) (k : Keeps fp fp' H H') : Src K H' r xs fp' := by
  rcases h with ⟨h, n⟩ | h
  · refine .inl ⟨?_, fun z => ?_⟩
    · rcases h with h | ⟨o, h⟩
      · exact .inl (k.2 _ _ h n)
      · exact .inr ⟨o, k.2 _ _ h n⟩
    · rcases k.1 r z with y | y
      · exact n y
      · rcases h with h | ⟨o, h⟩
        · rw [y] at h; cases h
        · rw [y] at h; cases h
  · exact .inr h
theorem Src.of {K : PySem.W.Frag} {H : Hp} {r : Addr} {xs : List V} (h : SqL K H r xs) {fp : List Addr} (hf : ∀ b, b ∈ fp → H b = none) : Src K H r xs fp := by
  rcases h with h | ⟨o, its, n, h⟩
  · refine .inl ⟨h, fun z => ?_⟩
    have y := hf r z
    rcases h with h | ⟨o, h⟩
    · rw [y] at h; cases h
    · rw [y] at h; cases h
  · exact .inr fun H' => .inr ⟨o, its, n, h⟩
theorem Keeps.cons {fp fp' : List Addr} {H H' : Hp} (g : Addr) (k : Keeps fp fp' H H') : Keeps (g :: fp) (g :: fp') H H' := ⟨fun b hb => by
  rcases List.mem_cons.mp hb with e | e
  · exact .inl (by rw [e]; exact List.mem_cons_self ..)
  · rcases k.1 b e with z | z
    · exact .inl (List.mem_cons_of_mem _ z)
    · exact .inr z, fun b o e n => k.2 b o e fun z => n (List.mem_cons_of_mem _ z)⟩
theorem Keeps.upd {fp : List Addr} {H : Hp} {g : Addr} {o : HO} (hg : g ∈ fp) : Keeps fp fp H (L2.upd H g o) := ⟨fun _ hb => .inl hb, fun b u e n => by rw [upd_ne (fun z => n (by rw [z]; exact hg))]; exact e⟩
theorem Keeps.fresh {fp : List Addr} {H : Hp} {q : Addr} {o : HO} (hq : H q = none) : Keeps fp fp H (L2.upd H q o) := ⟨fun _ hb => .inl hb, fun b u e _ => by rw [upd_ne (ne_of_none e hq)]; exact e⟩
theorem one_kind {u : List Int} {c : List (List Int)} (o : Tc.One u c []) : (u = [0] ∧ c = [[0]]) ∨ (∃ cards : List Int, u = 1 :: 32 :: cards ∧ c = [[1], cards] ∧ cards.length = 32 ∧ ∀ z ∈ cards, 0 ≤ z ∧ z < 256) ∨ (∃ n : Int, (u.map V.int)[0]? = some (V.int n) ∧ u.headD 0 = n ∧ 2 ≤ n ∧ ∀ s : Rc32.Abs, s.game = none → Rc32Neutral.step s c = (s, [-4])) := by
  have none4 : ∀ x : Rc32.Call, Rc32Neutral.callOf c = some x → (∀ s : Rc32.Abs, s.game = none → Rc32.does s x = (s, Rc32.noGame)) → ∀ s : Rc32.Abs, s.game = none → Rc32Neutral.step s c = (s, [-4]) := fun x e1 e2 s hs => by
    unfold Rc32Neutral.step
    rw [e1]
    simp only
    rw [e2 s hs]
    rfl
  cases o with
  | begin t => exact .inl ⟨rfl, rfl⟩
  | deal cards t hl hb => exact .inr (.inl ⟨cards, by simp, rfl, hl, hb⟩)
  | speak x t => exact .inr (.inr ⟨2, rfl, rfl, by decide, none4 _ rfl fun s hs => by simp only [Rc32.does, hs]⟩)
  | take x t => exact .inr (.inr ⟨3, rfl, rfl, by decide, none4 _ rfl fun s hs => by simp only [Rc32.does, hs]⟩)
  | lay a b t => exact .inr (.inr ⟨4, rfl, rfl, by decide, none4 _ rfl fun s hs => by simp only [Rc32.does, hs]⟩)
  | declare a b t => exact .inr (.inr ⟨5, rfl, rfl, by decide, none4 _ rfl fun s hs => by simp only [Rc32.does, hs]⟩)
  | play x t => exact .inr (.inr ⟨6, rfl, rfl, by decide, none4 _ rfl fun s hs => by simp only [Rc32.does, hs]⟩)
  | legal t => exact .inr (.inr ⟨7, rfl, rfl, by decide, none4 _ rfl fun s hs => by simp only [Rc32.does, hs]⟩)
  | hand x t => exact .inr (.inr ⟨8, rfl, rfl, by decide, none4 _ rfl fun s hs => by simp only [Rc32.does, hs]⟩)
  | state t => exact .inr (.inr ⟨9, rfl, rfl, by decide, none4 _ rfl fun s hs => by simp only [Rc32.does, hs]⟩)
  | result t => exact .inr (.inr ⟨10, rfl, rfl, by decide, none4 _ rfl fun s hs => by simp only [Rc32.does, hs]⟩)
  | sure t => exact .inr (.inr ⟨11, rfl, rfl, by decide, none4 _ rfl fun s hs => by simp only [Rc32.does, hs]⟩)
theorem wf_step {s : Rc32.Abs} {u : List Int} {c : List (List Int)} (o : Tc.One u c []) (w : Tc.WfS s) : Tc.WfS (Rc32Neutral.step s c).1 := by
  have fin : ∀ x : Rc32.Call, Rc32Neutral.callOf c = some x → (∀ l, x = .deal l → l.length = 32) → Tc.WfS (Rc32Neutral.step s c).1 := fun x e1 e2 => by
    unfold Rc32Neutral.step
    rw [e1]
    exact Tc.wf_does w e2
  cases o with
  | deal cards t hl hb => exact fin _ rfl fun l e => by cases e; rw [show (Rc32Neutral.natsOf cards).length = cards.length from List.length_map _]; exact hl
  | _ => exact fin _ rfl fun l e => nomatch e
/-- only a card goes on from a game that is played -/
theorem mv_end {g h : Rc32.Game} {u : List Int} {c : List (List Int)} (o : Tc.One u c []) (e : mv g c = some h) (ph : g.phase = .playing ∨ g.phase = .over) : ∃ n, g.phase = .playing ∧ n ∈ Tc.may g ∧ h = Tc.next g n := by
  cases o with
  | begin t => cases e
  | deal cards t hl hb => cases e
  | legal t => cases e
  | hand x t => cases e
  | state t => cases e
  | result t => cases e
  | sure t => cases e
  | speak x t =>
    have e : Rc32.speak g (Rc32.natOf x) = some h := e
    unfold Rc32.speak at e
    rcases ph with z | z <;> rw [z] at e <;> cases e
  | take x t =>
    have e : (if g.phase ≠ .choosing then none else _) = some h := e
    rw [if_pos (by rcases ph with z | z <;> rw [z] <;> intro y <;> cases y)] at e
    cases e
  | lay a b t =>
    have e : (if g.phase ≠ .laying ∨ _ then none else _) = some h := e
    rw [if_pos (.inl (by rcases ph with z | z <;> rw [z] <;> intro y <;> cases y))] at e
    cases e
  | declare a b t =>
    have e : (if g.phase ≠ .declaring ∨ _ then none else _) = some h := e
    rw [if_pos (.inl (by rcases ph with z | z <;> rw [z] <;> intro y <;> cases y))] at e
    cases e
  | play x t =>
    have e : Rc32.play g (Rc32.natOf x) = some h := e
    by_cases hm : Rc32.natOf x ∈ Tc.may g
    · rcases ph with z | z
      · rw [Tc.play_next z hm] at e
        exact ⟨_, z, hm, (Option.some.inj e).symm⟩
      · unfold Rc32.play at e
        simp only at e
        rw [if_pos (.inl (by rw [z]; intro y; cases y))] at e
        cases e
    · rw [Tc.play_none hm] at e
      cases e
section
variable {P : Program} {w : World} {K : PySem.W.Frag} {mg : Str → Option Value} {base : Heap}
theorem end_moved {T : Txt K mg} {X : List Addr} {d a l t t' : Addr} {H H' : Hp} {en : V} {g h : Rc32.Game} {fe : List Addr} {u : List Int} {c : List (List Int)} (one : Tc.One u c []) (wf : Tc.Wf g) (E : EndOk T (d :: a :: l :: t :: X) H en g fe) (alt : (mv g c = none ∧ h = g) ∨ mv g c = some h) (tt : t' = t ∨ H t' = none)
    (kp : ∀ b o, H b = some o → b ≠ a → b ≠ l → b ≠ t → H' b = some o) : EndOk T (d :: a :: l :: t' :: X) H' en h fe := by
  cases E with
  | none => exact .none
  | some EA ph at' =>
    have E1 : EndAt T (d :: a :: l :: t :: t' :: X) H _ _ _ _ _ _ := EA.places fun b hb => by
      simp only [List.mem_cons] at hb ⊢
      rcases hb with z | z | z | z | z | z
      · exact .inl (.inl z)
      · exact .inl (.inr (.inl z))
      · exact .inl (.inr (.inr (.inl z)))
      · exact .inl (.inr (.inr (.inr (.inl z))))
      · rcases tt with y | y
        · exact .inl (.inr (.inr (.inr (.inl (z.trans y)))))
        · exact .inr (by rw [z]; exact y)
      · exact .inl (.inr (.inr (.inr (.inr z))))
    have E2 : EndAt T (d :: a :: l :: t :: t' :: X) H' _ _ _ _ _ _ := E1.frame fun b o x nb => by
      simp only [List.mem_cons, not_or] at nb
      exact kp b o x nb.2.1 nb.2.2.1 nb.2.2.2.1
    have E3 : EndAt T (d :: a :: l :: t' :: X) H' _ _ _ _ _ _ := E2.places fun b hb => by
      simp only [List.mem_cons] at hb ⊢
      rcases hb with z | z | z | z | z
      · exact .inl (.inl z)
      · exact .inl (.inr (.inl z))
      · exact .inl (.inr (.inr (.inl z)))
      · exact .inl (.inr (.inr (.inr (.inr (.inl z)))))
      · exact .inl (.inr (.inr (.inr (.inr (.inr z)))))
    rcases alt with ⟨_, rfl⟩ | e
    · exact .some E3 ph at'
    · obtain ⟨n, hp, hm, rfl⟩ := mv_end one e ph
      refine .some E3 (Tc.next_phase hp hm) fun hp' => ?_
      obtain ⟨A, sub⟩ := at' hp
      have A' := Tc.at_next A hp hm
      have el := A'.left
      rw [el] at A'
      exact ⟨A', Tc.sub_next wf hp hm sub⟩
theorem DeskAt.wfs {T : Txt K mg} {X : List Addr} {H : Hp} {d : Addr} {fp : List Addr} {s : Rc32.Abs} (D : DeskAt T X H d fp s) : Tc.WfS s := by
  cases D with
  | empty hs _ => intro g h; rw [hs] at h; cases h
  | full hs wf R h G ht da dl dt lt EO => intro g' h'; rw [hs] at h'; cases h'; exact wf
def spCall (T : Txt K mg) : Sp := fun vs H Q _ => ∃ (X : List Addr) (d r : Addr) (fp : List Addr) (s : Rc32.Abs) (u : List Int) (c : List (List Int)), vs = [.ref d, .ref r] ∧ DeskAt T X H d fp s ∧ (∀ b, b ∈ X → ∃ o, H b = some o) ∧ H r = some (.lst (u.map V.int)) ∧ Tc.One u c [] ∧
  ∀ (q : Addr) (fp' : List Addr) (H' : Hp), H' q = some (.lst ((Rc32Neutral.step s c).2.map V.int)) → (∀ b o, H b = some o → b ∉ fp → b ≠ q) → q ∉ fp' → DeskAt T X H' d fp' (Rc32Neutral.step s c).1 → Keeps fp fp' H H' → Q (.ref q) H'
theorem ok_answer_call (T : Txt K mg) : FnOk P w K mg base CX0 (lv 30 + 3) T.d_answer_call.f T.d_answer_call.fd ["desk", "call"] (spCall T) := by
  have nd := sc_answer_call.nd
  have G_deal : FnOk P w K mg base CX0 4 _ _ _ _ := ok_deal T
  have G_move : FnOk P w K mg base CX0 7 _ _ _ _ := ok_move T
  have G_tell : FnOk P w K mg base CX0 (lv 30 + 2) _ _ _ _ := ok_tell T
  refine T.d_answer_call.fn.ok sc_answer_call (fun vs H Q E h => ?_) (fun cdv A outer s H vs Q E hr h => ?_)
  · obtain ⟨X, d, r, fp, st, u, c, rfl, _⟩ := h
    rfl
  · obtain ⟨X, d, r, fp, st, u, c, rfl, D, hX, hrr, one, k⟩ := h
    have hr_deal := hr.mono (show 4 ≤ lv 30 + 2 by decide)
    have hr_move := hr.mono (show 7 ≤ lv 30 + 2 by decide)
    have hr_tell := hr
    -- a list of one number, laid behind all else
    have lay1 : ∀ (x : Int) (fp' : List Addr) (H' : Hp), Rc32Neutral.step st c = ((Rc32Neutral.step st c).1, [x]) → DeskAt T X H' d fp' (Rc32Neutral.step st c).1 → Keeps fp fp' H H' → ∀ q, H' q = none → Q (.ref q) (upd H' q (.lst [V.int x])) := fun x fp' H' e D' kp q fq => by
      have s' : Same H' (upd H' q (.lst [V.int x])) := Same.upd fq
      have nq : q ∉ fp' := fun z => by
        obtain ⟨o, ho⟩ := D'.mem z
        rw [fq] at ho
        cases ho
      exact k q fp' _ (by rw [e]; exact upd_same) (fun b o h n z => by rw [← z, kp.2 b o h n] at fq; cases fq) nq (D'.same s') ⟨kp.1, fun b o h n => s' _ _ (kp.2 b o h n)⟩
    obtain ⟨dd, dv, hd, hdf⟩ := D.obj
    refine ⟨_, (pss_cons (ps_if (pt_cmp (pc_eqI (pe_ix ix_list (pv 1) pe_int (fun _ _ => rfl)) (pe_gint rfl T.c_BEGIN))) (pss_cons (ps_fld (pv 0) pe_non rfl)
      (pss_one (ps_ret (pe_lst (pa_cons (pe_gint rfl T.c_DONE) pa_nil))))) pss_nil)
      (pss_cons (ps_if (pt_cmp (pc_eqI (pe_ix ix_list (pv 1) pe_int (fun _ _ => rfl)) (pe_gint rfl T.c_DEAL))) (pss_one (ps_ret (pe_lst (pa_cons (pe_def T.d_deal G_deal hr_deal rfl (pa_cons (pv 0) (pa_cons (pe_slice sl_list (pv 1) (po_some pe_int) po_none) pa_nil))) pa_nil)))) pss_nil)
      (pss_cons (ps_if (pt_cmp (pc_isN (pe_fld (pv 0) rfl))) (pss_one (ps_ret (pe_lst (pa_cons (pe_gint rfl T.c_NO_GAME) pa_nil)))) pss_nil)
      (pss_cons (ps_if (pt_cmp (pc_le (pe_ix ix_list (pv 1) pe_int (fun _ _ => rfl)) (pe_gint rfl T.c_PLAY))) (pss_one (ps_ret (pe_lst (pa_cons (pe_def T.d_move G_move hr_move rfl (pa_cons (pe_fld (pv 0) rfl) (pa_cons (pv 1) pa_nil))) pa_nil)))) pss_nil)
      (pss_one (ps_ret (pe_def T.d_tell G_tell hr_tell rfl (pa_cons (pe_fld (pv 0) rfl) (pa_cons (pv 1) pa_nil))))))))), ?_⟩
    rcases one_kind one with ⟨rfl, rfl⟩ | ⟨cards, rfl, rfl, hl, hb⟩ | ⟨n, hn, hn2, n2, hno⟩
    · refine ⟨_, rfl, r, _, _, _, rfl, rfl, SqL.of hrr, atI_in (j := 0) rfl rfl, _, _, rfl, rfl, _, rfl, itD (fun _ => ?_) (fun z => absurd rfl z)⟩
      refine ⟨_, rfl, st_fld (i := 0) hd T.k_Desk.cl (T.k_Desk.no 0 _ rfl) nd_Desk rfl rfl (by decide) ?_⟩
      refine ⟨(by show 1 ≤ sizeLine; decide), lay1 0 [d] _ rfl (.empty rfl upd_same) ⟨fun b hb => .inl (by simp at hb; rw [hb]; exact hdf), fun b o h n => ?_⟩⟩
      rw [upd_ne (fun z => n (by rw [z]; exact hdf))]
      exact h
    · refine ⟨_, rfl, r, _, _, _, rfl, rfl, SqL.of hrr, atI_in (j := 0) rfl rfl, _, _, rfl, rfl, _, rfl, itD (fun z => absurd z (by decide)) (fun _ => ?_)⟩
      refine ⟨_, rfl, r, _, _, _, rfl, rfl, SqL.of hrr, atI_in (j := 0) rfl rfl, _, _, rfl, rfl, _, rfl, itD (fun _ => ?_) (fun z => absurd rfl z)⟩
      refine ⟨_, rfl, _, rfl, _, rfl, r, _, rfl, SqL.of hrr, fun q fq => ?_⟩
      have ecut : cutV ((1 :: 32 :: cards).map V.int) (some 2) none = cards.map V.int := cut_ints_from (cards := 1 :: 32 :: cards) (k := 2)
      rw [ecut]
      have s1 : Same H (upd H q (.lst (cards.map V.int))) := Same.upd fq
      refine ⟨X, d, q, fp, st, cards, rfl, D.same s1, upd_same, hl, hb, fun fp' H' D' kp => ?_⟩
      have es : Rc32Neutral.step st [[1], cards] = ((dealt st cards).1, [(dealt st cards).2]) := by
        unfold Rc32Neutral.step dealt
        simp only [Rc32Neutral.callOf, Rc32.does]
        cases hw : Rc32.whole (Rc32Neutral.natsOf cards) with
        | false => rw [if_pos rfl, if_neg (by decide)]; rfl
        | true => rw [if_neg (by decide), if_pos rfl]; rfl
      have kp' : Keeps fp fp' H H' := ⟨fun b hb => (kp.1 b hb).imp id fun z => s1.free z, fun b o h n => kp.2 b o (s1 _ _ h) n⟩
      have D'' : DeskAt T X H' d fp' (Rc32Neutral.step st [[1], cards]).1 := by rw [es]; exact D'
      exact ⟨(by show 1 ≤ sizeLine; decide), lay1 _ fp' H' (by rw [es]) D'' kp'⟩
    · refine ⟨_, rfl, r, _, _, _, rfl, rfl, SqL.of hrr, atI_in (j := 0) rfl hn, _, _, rfl, rfl, _, rfl, itD (fun z => absurd z (by omega)) (fun _ => ?_)⟩
      refine ⟨_, rfl, r, _, _, _, rfl, rfl, SqL.of hrr, atI_in (j := 0) rfl hn, _, _, rfl, rfl, _, rfl, itD (fun z => absurd z (by omega)) (fun _ => ?_)⟩
      have wst := wf_step one D.wfs
      have D0 := D
      cases D with
      | empty hs h =>
        refine ⟨_, rfl, rd_fld (i := 0) h T.k_Desk.cl (T.k_Desk.no 0 _ rfl) nd_Desk rfl rfl ⟨_, rfl, iteT ?_⟩⟩
        have es := hno st hs
        have De : DeskAt T X H d [d] (Rc32Neutral.step st c).1 := by rw [es]; exact D0
        exact ⟨(by show 1 ≤ sizeLine; decide), lay1 (-4) [d] H (by rw [es]) De ⟨fun b hb => .inl hb, fun b o h _ => h⟩⟩
      | full hs wf R h G ht da dl dt lt EO =>
        rename_i dx a l t en p g fe
        refine ⟨_, rfl, rd_fld (i := 0) h T.k_Desk.cl (T.k_Desk.no 0 _ rfl) nd_Desk rfl rfl ⟨_, rfl, iteF ?_⟩⟩
        refine ⟨_, rfl, r, _, _, _, rfl, rfl, SqL.of hrr, atI_in (j := 0) rfl hn, _, _, rfl, rfl, _, rfl, itD (fun h6 => ?_) (fun h6 => ?_)⟩
        · obtain ⟨m1, m2⟩ := step_move hs one ⟨by omega, by omega⟩
          refine ⟨_, rfl, rd_fld (i := 0) h T.k_Desk.cl (T.k_Desk.no 0 _ rfl) nd_Desk rfl rfl ⟨_, rfl, a, l, t, r, en, p, g, u, c, rfl, G, ht, lt, wf, R, hrr, one, ⟨by omega, by omega⟩, fun hh p' t' x H' alt R' G' ht' tt lt' kp => ?_⟩⟩
          have EO' : EndOk T (d :: a :: l :: t' :: X) H' en hh fe := end_moved one wf EO (alt.imp (fun z => ⟨z.1, z.2.1⟩) fun z => z.1) tt kp
          have es : Rc32Neutral.step st c = ((Rc32Neutral.step st c).1, [x]) ∧ (Rc32Neutral.step st c).1.game = some hh := by
            rcases alt with ⟨e1, e2, e3⟩ | ⟨e1, e3⟩
            · rw [m1 e1, e2, e3]; exact ⟨rfl, hs⟩
            · rw [m2 _ e1, e3]; exact ⟨rfl, rfl⟩
          have dt' : d ≠ t' := by
            rcases tt with z | z
            · rw [z]; exact dt
            · exact ne_of_none h z
          have D' : DeskAt T X H' d ([d, a, l, t'] ++ fe) (Rc32Neutral.step st c).1 := .full es.2 (wst hh es.2) R' (kp _ _ h da dl dt) G' ht' da dl dt' lt' EO'
          refine ⟨(by show 1 ≤ sizeLine; decide), lay1 x _ H' es.1 D' ⟨fun b hb => ?_, fun b o z nb => ?_⟩⟩
          · rcases List.mem_append.mp hb with y | y
            · simp only [List.mem_cons, List.not_mem_nil, or_false] at y
              rcases y with y | y | y | y
              · exact .inl (by rw [y]; simp)
              · exact .inl (by rw [y]; simp)
              · exact .inl (by rw [y]; simp)
              · rcases tt with v | v
                · exact .inl (by rw [y, v]; simp)
                · exact .inr (by rw [y]; exact v)
            · exact .inl (List.mem_append_right _ y)
          · simp only [List.mem_append, List.mem_cons, List.not_mem_nil, or_false, not_or] at nb
            exact kp b o z nb.1.2.1 nb.1.2.2.1 nb.1.2.2.2
        · have es := step_tell hs one (by omega)
          have hF0 : ∀ b, b ∈ [d, a, l, t] → ∃ o, H b = some o := fun b hb => D0.mem (List.mem_append_left _ hb)
          have hF : ∀ b, b ∈ d :: a :: l :: t :: X → ∃ o, H b = some o := fun b hb => by
            rcases List.mem_append.mp (show b ∈ [d, a, l, t] ++ X from hb) with z | z
            · exact hF0 b z
            · exact hX b z
          refine ⟨_, rfl, rd_fld (i := 0) h T.k_Desk.cl (T.k_Desk.no 0 _ rfl) nd_Desk rfl rfl ⟨_, rfl, d :: a :: l :: t :: X, a, l, t, r, en, p, g, fe, u, c, rfl, G, ht, wf, R, EO, by simp, by simp, by simp, hF, hrr, one, by omega, fun q en' fe' H' hq fq qfe G' ht' EO' kf kp => ?_⟩⟩
          have dfe : d ∉ fe := fun z => (EO.out d z).1 (by simp)
          have nq : ∀ b o, H b = some o → b ≠ q := fun b o z y => by rw [y, fq] at z; cases z
          refine k q ([d, a, l, t] ++ fe') H' (by rw [es]; exact hq) (fun b o z _ => nq b o z) (fun z => ?_) (by rw [es]; exact .full hs wf R (kp _ _ h da dfe) G' ht' da dl dt lt EO') ⟨fun b hb => ?_, fun b o z nb => ?_⟩
          · rcases List.mem_append.mp z with y | y
            · obtain ⟨o, ho⟩ := hF0 q y
              rw [fq] at ho
              cases ho
            · exact qfe y
          · rcases List.mem_append.mp hb with y | y
            · exact .inl (List.mem_append_left _ y)
            · exact (kf b y).imp (List.mem_append_right _) id
          · simp only [List.mem_append, List.mem_cons, List.not_mem_nil, or_false, not_or] at nb
            exact kp b o z nb.1.2.1 nb.2
def spAnswers (K : PySem.W.Frag) : Sp := fun vs H Q _ => ∃ (r : Addr) (l : List Int), vs = [.ref r] ∧ SqL K H r (l.map V.int) ∧ PyRc32.answers_asked l = true ∧ l.length ≤ 30000 ∧ ∀ p H', H' p = some (.lst ((PyRc32.answers l).map V.int)) → Q (.ref p) H'
theorem ok_answers (T : Txt K mg) : FnOk P w K mg base CX0 (lv 30 + 4) T.d_answers.f T.d_answers.fd ["calls"] (spAnswers K) := by
  have nd := sc_answers.nd
  have G_Desk_init : FnOk P w K mg base CX0 1 _ _ _ _ := ok_Desk_init T
  have G_end_of_call : FnOk P w K mg base CX0 1 _ _ _ _ := ok_end_of_call T
  have G_answer_call : FnOk P w K mg base CX0 (lv 30 + 3) _ _ _ _ := ok_answer_call T
  refine T.d_answers.fn.ok sc_answers (fun vs H Q E h => ?_) (fun cdv A outer s H vs Q E hr h => ?_)
  · obtain ⟨r, l, rfl, _⟩ := h
    rfl
  · obtain ⟨r, l, rfl, hs, ha, hl, k⟩ := h
    have hr_Desk := hr.mono (show 1 + 1 ≤ lv 30 + 3 by decide)
    have hr_end_of_call := hr.mono (show 1 ≤ lv 30 + 3 by decide)
    have hr_answer_call := hr
    obtain ⟨cs, many, c300, _, eq⟩ := Tc.asked_many ha
    refine ⟨_, (pss_cons (ps_set (i := 1) nd rfl (Or.inl rfl) (pe_make0 T.k_Desk.made G_Desk_init hr_Desk rfl T.k_Desk.glob T.k_Desk.bd .nil pass0))
      (pss_cons (ps_set (i := 2) nd rfl (Or.inl rfl) (pe_lst pa_nil))
      (pss_cons (ps_set (i := 3) nd rfl (Or.inl rfl) pe_int)
      (pss_cons (ps_while PassesOwn.never (pt_cmp (pc_lt (pv 3) (pe_callB call_len_seq (by rfl) T.nLen PySem.boot_len (pa_cons (pv 0) pa_nil)))) (pss_cons (ps_set (i := 4) nd rfl (Or.inl rfl) (pe_def T.d_end_of_call G_end_of_call hr_end_of_call rfl (pa_cons (pv 0) (pa_cons (pv 3) pa_nil))))
      (pss_cons (ps_set (i := 5) nd rfl (Or.inl rfl) (pe_def T.d_answer_call G_answer_call hr_answer_call rfl (pa_cons (pv 1) (pa_cons (pe_slice sl_list (pv 0) (po_some (pv 3)) (po_some (pv 4))) pa_nil))))
      (pss_cons (ps_expr (pe_bm PySem.F.plainAttrs_list PySem.F.slot_list_append PySem.F.type_list_append mt_append (pv 2) (pa_cons (pe_callB call_len_seq (by rfl) T.nLen PySem.boot_len (pa_cons (pv 5) pa_nil)) pa_nil)))
      (pss_cons (ps_expr (pe_bm PySem.F.plainAttrs_list PySem.F.slot_list_extend PySem.F.type_list_extend mt_extend (pv 2) (pa_cons (pv 5) pa_nil)))
      (pss_one (ps_set (i := 3) nd rfl (Or.inl rfl) (pv 4))))))))
      (pss_one (ps_ret (pv 2))))))), ?_⟩
    -- desk = Desk(); given = []; at = 0
    intro d dx nd1 nd2 nd3
    refine ⟨d, dx, rfl, upd_same, fun H1 D1 k1 => ⟨rfl, (by show 0 ≤ sizeLine; decide), fun g fg => ?_⟩⟩
    have s0 : Same H (upd (upd H dx (.own d)) d (.ins T.k_Desk.C dx [])) := fun b u e => by rw [upd_ne (ne_of_none e nd1), upd_ne (ne_of_none e nd2)]; exact e
    have s1 : Same H H1 := fun b u e => k1 b u (s0 b u e) (ne_of_none e nd1)
    have src0 : Src K H r (l.map V.int) [g, d] := Src.of hs fun b hb => by
      simp at hb
      rcases hb with hb | hb <;> rw [hb]
      · exact s1.free fg
      · exact nd1
    have src1 : Src K (upd H1 g (.lst [])) r (l.map V.int) [g, d] := src0.keep ⟨fun b hb => .inl hb, fun b u e _ => by have e1 := s1 b u e; rw [upd_ne (ne_of_none e1 fg)]; exact e1⟩
    obtain ⟨dd, dv, hd1, _⟩ := (D1 []).obj
    have dg : d ≠ g := ne_of_none hd1 fg
    refine while_by (fun σ H2 => ∃ (j : Nat) (out : List Int) (fp : List Addr) (st : Rc32.Abs) (cs : List (List (List Int))) (v4 v5 : Option V), σ = [some (.ref r), some (.ref d), some (.ref g), some (.int (j : Int)), v4, v5] ∧ j ≤ l.length ∧
        Tc.Many (l.drop j) cs ∧ Src K H2 r (l.map V.int) (g :: fp) ∧ DeskAt T [g] H2 d fp st ∧ H2 g = some (.lst (out.map V.int)) ∧ g ∉ fp ∧ PyRc32.answers l = out ++ Tc.due st cs ∧ out.length + 8 * cs.length ≤ 2400)
      (fun (σ : St) (_ : Hp) => match σ[3]? with | some (some (V.int j)) => l.length - j.toNat | _ => 0) ?start ?turn ?mono
    case start =>
      refine ⟨0, [], [d], {}, cs, none, none, rfl, Nat.zero_le _, many, src1, (D1 [g]).same (Same.upd fg), upd_same, ?_, eq, by simp; omega⟩
      simp; exact dg.symm
    case mono =>
      intro σ H2 Q1 Q2 hq h
      obtain ⟨v, e1, v2, e2, p, ys, e3, h3, i, j, e4, e5, b, e6, h⟩ := h
      exact ⟨v, e1, v2, e2, p, ys, e3, h3, i, j, e4, e5, b, e6, hq _ _ h⟩
    case turn =>
      rintro σ H2 ⟨j, out, fp, st, cs, v4, v5, rfl, hj, many, src, D, hg, gfp, eq, hb⟩
      refine ⟨_, rfl, _, rfl, r, _, rfl, .inl src.sq, _, _, rfl, rfl, _, rfl, itD (fun hlt => ?_) (fun hlt => ?_)⟩
      · rw [List.length_map] at hlt
        have hlt' : j < l.length := by omega
        have len0 := List.length_drop (i := j) (l := l)
        cases hm : l.drop j with
        | nil => rw [hm] at len0; simp at len0; omega
        | cons z zs =>
          rw [hm] at many
          cases many with
          | cons one rest =>
            rename_i t c cs
            obtain ⟨u, eu, one1⟩ := one.alone
            have one' : Tc.One (l.drop j) c t := by rw [hm]; exact one
            have eu' : l.drop j = u ++ t := by rw [hm]; exact eu
            have lenu : u.length + t.length = l.length - j := by rw [← len0, eu', List.length_append]
            refine ⟨_, rfl, _, rfl, r, l, j, c, t, rfl, src.sq, one', ?_⟩
            -- answer = answer_call(desk, calls[at:end])
            refine ⟨_, rfl, _, rfl, _, rfl, _, rfl, _, rfl, _, rfl, r, _, rfl, src.sq, fun q fq => ?_⟩
            have eE : ((l.length - t.length : Nat) : Int) = ((j + u.length : Nat) : Int) := by omega
            have ecut : cutV (l.map V.int) (some (j : Int)) (some ((l.length - t.length : Nat) : Int)) = u.map V.int := by
              rw [eE, cut_ints_mid (Nat.le_add_right _ _), Nat.add_sub_cancel_left, eu', List.take_left']
              rfl
            rw [ecut]
            obtain ⟨sl1, sl7⟩ := Tc.step_len (s := st) one1
            refine ⟨[g], d, q, fp, st, u, c, rfl, D.same (Same.upd fq), (fun b hb => by simp at hb; rw [hb]; exact ⟨_, Same.upd fq _ _ hg⟩), upd_same, one1, fun a fp' H3 ha3 na afp D3 k3 => ?_⟩
            have kk : Keeps fp fp' H2 H3 := ⟨fun b hb => (k3.1 b hb).imp id fun z => (Same.upd (o := .lst (u.map V.int)) fq).free z, fun b ob e n => k3.2 b ob (Same.upd fq b ob e) n⟩
            have hg3 : H3 g = some (.lst (out.map V.int)) := kk.2 _ _ hg gfp
            have gfp' : g ∉ fp' := fun z => by
              rcases kk.1 g z with y | y
              · exact gfp y
              · rw [hg] at y; cases y
            have ga : g ≠ a := na g _ (Same.upd fq _ _ hg) gfp
            have olen : (out.map V.int).length < 10000 := by rw [List.length_map]; omega
            have sl : (10000 : Nat) + 10000 < sizeLine := by decide
            -- given.append(len(answer))
            refine ⟨_, rfl, .inl ⟨rfl, _, SqL.of hg3⟩, _, rfl, a, _, rfl, .inl (SqL.of ha3), g, _, _, rfl, rfl, hg3, by omega, ?_⟩
            -- given.extend(answer)
            refine ⟨_, rfl, .inl ⟨rfl, _, SqL.of upd_same⟩, _, rfl, g, a, _, _, rfl, rfl, upd_same, by rw [upd_ne ga.symm]; exact ha3, by rw [List.length_append, List.length_map (as := (Rc32Neutral.step st c).2)]; simp only [List.length_singleton]; omega, ?_⟩
            -- at = end
            refine ⟨_, rfl, ?_⟩
            have src3 : Src K H3 r (l.map V.int) (g :: fp') := src.keep (kk.cons g)
            have m1 : g ∈ g :: fp' := List.mem_cons_self ..
            refine ⟨⟨j + u.length, out ++ (((Rc32Neutral.step st c).2.length : Int) :: (Rc32Neutral.step st c).2), fp', (Rc32Neutral.step st c).1, cs, some (.int ((l.length - t.length : Nat) : Int)), some (.ref a), ?_, by omega, ?_, (src3.keep (Keeps.upd m1)).keep (Keeps.upd m1), ?_, ?_, gfp', ?_, ?_⟩, ?_⟩
            · rw [eE]; rfl
            · have : l.drop (j + u.length) = t := by rw [← List.drop_drop, eu', List.drop_left']; rfl
              rw [this]; exact rest
            · exact D3.but (by simp) gfp' fun b ob e hb => by rw [upd_ne hb, upd_ne hb]; exact e
            · rw [upd_same]
              simp
            · rw [eq, Tc.due_cons]
              simp
            · simp only [List.length_append, List.length_cons] at hb ⊢
              omega
            · show l.length - ((l.length - t.length : Nat) : Int).toNat < l.length - (j : Int).toNat
              have hu : 0 < u.length := by cases one1 <;> simp
              omega
      · rw [List.length_map] at hlt
        have hd : l.drop j = [] := List.drop_eq_nil_of_le (by omega)
        rw [hd] at many
        cases many with
        | cons one _ => cases one
        | nil =>
          rw [Tc.due_nil, List.append_nil] at eq
          refine ⟨_, rfl, k g H2 ?_⟩
          rw [eq]
          exact hg
end
end Prog
def PySem.W.Fast.tw103640824789340144 := 0
def PySem.W.Fast.tw6008684127530420092 := 0
def PySem.W.Fast.tw8269898015761082769 := 0
def PySem.W.Fast.tw14945640078304344159 := 0
def PySem.W.Fast.tw8451004421094559134 := 0
def PySem.W.Fast.tw9282970767364521870 := 0
def PySem.W.Fast.tw7610101799577360546 := 0
def PySem.W.Fast.tw4464863802216998702 := 0
def PySem.W.Fast.tw2353632169047892503 := 0
def PySem.W.Fast.tw8117908481242304214 := 0
def PySem.W.Fast.tw12444335156361580951 := 0
def PySem.W.Fast.tw461050986361436617 := 0
def PySem.W.Fast.tw2524257625062092160 := 0
def PySem.W.Fast.tw3351766831483002827 := 0
def PySem.W.Fast.tw2544510299787532217 := 0
def PySem.W.Fast.tw3491400300750722793 := 0
def PySem.W.Fast.tw3733605134746347300 := 0
def PySem.W.Fast.tw4128946362422642123 := 0
def PySem.W.Fast.tw18206618398981414232 := 0
def PySem.W.Fast.tw7810362423569218929 := 0
def PySem.W.Fast.tw3587626139060538022 := 0
def PySem.W.Fast.tw8613477561994450093 := 0
def PySem.W.Fast.tw11720356399796941837 := 0
def PySem.W.Fast.tw13535446816642568263 := 0
def PySem.W.Fast.tw5500426420260124466 := 0
def PySem.W.Fast.tw10414099183607146034 := 0
def PySem.W.Fast.tw15494396210179918325 := 0
def PySem.W.Fast.tw17178895531514322713 := 0
def PySem.W.Fast.tw13241819227356967191 := 0
def PySem.W.Fast.tw12210711513689650635 := 0
def PySem.W.Fast.tw3292279134207724159 := 0
def PySem.W.Fast.tw12986816813553861457 := 0
def PySem.W.Fast.tw18000096440537928599 := 0
def PySem.W.Fast.tw11554208644346826596 := 0
def PySem.W.Fast.tw16685515351796166178 := 0
def PySem.W.Fast.tw4353136549382892484 := 0
def PySem.W.Fast.tw1146241994963407242 := 0
def PySem.W.Fast.tw11816301703797117732 := 0
def PySem.W.Fast.tw4250667073137297633 := 0
def PySem.W.Fast.tw10259192488170589560 := 0
def PySem.W.Fast.tw12601501159177053272 := 0
def PySem.W.Fast.tw1323650113061000670 := 0
def PySem.W.Fast.tw10520860446533829594 := 0
def PySem.W.Fast.tw15066594354804149706 := 0
def PySem.W.Fast.tw17839042602435917398 := 0
def PySem.W.Fast.tw10552807986974272502 := 0
def PySem.W.Fast.tw1220504490159763021 := 0
def PySem.W.Fast.tw1253335372128252007 := 0
def PySem.W.Fast.tw7485945436873437701 := 0
def PySem.W.Fast.tw17499363641283433138 := 0
def PySem.W.Fast.tw10780103527304060205 := 0
def PySem.W.Fast.tw6780343340775099845 := 0
def PySem.W.Fast.tw12043737750624482558 := 0
def PySem.W.Fast.tw9513808356404848707 := 0
def PySem.W.Fast.tw11474197208608572078 := 0
def PySem.W.Fast.tw9440907696765344155 := 0
def PySem.W.Fast.tw16735862687100973484 := 0
def PySem.W.Fast.tw17933232096179073283 := 0
def PySem.W.Fast.tw17312785945647627741 := 0
open PySem PySem.W PyProof.Rows
set_option maxRecDepth 100000 in
set_option maxHeartbeats 0 in
theorem PySem.Challenge.cw_threecards_s01_answers_holds : PySem.Challenge.rw_threecards_s01_answers.Holds := by
  w_on; k_headS; (case hw => exact ⟨[.list []], by decide +kernel, by decide +kernel⟩)
  k_fillS
  refine L2S.walk_ofS (r := PySem.Challenge.rw_threecards_s01_answers) (n := 30000) (k := Prog.lv 30 + 4) (x := "calls") (sp := Prog.spAnswers) (asked := fun ns => PyRc32.answers_asked ns = true) (f := PyRc32.answers) ?hpre (by decide) rfl ⟨rfl, by decide, by decide⟩ (fun w h Y => PySem.W.kIn_of Y) ?F ?S
  case hpre =>
    intro args h
    obtain ⟨ns, e, hl, ha, hd⟩ := L2S.pre_one h
    exact ⟨ns, e, hl, ha, L2S.post_one hd⟩
  case S => exact fun K H a ns hl ha hO hS => ⟨a, ns, rfl, hS, ha, hl, fun p H' h => ⟨p, rfl, h⟩⟩
  case F =>
    intro w mg fa h KX G hmg
    have T : Nonempty (Prog.Txt (L2.KOf KX) mg) := by
      dsimp only [L2.KOf]
      refine' Prog.txt_mk KX G ?a_DONE ?a_REFUSED ?a_TOO_MANY_CARDS ?a_NO_GAME ?a_VALUE_AWAITED ?a_REPLY_AWAITED ?a_LAST_WORD_AWAITED ?a_TAKING_AWAITED ?a_LAYING_AWAITED ?a_DECLARATION_AWAITED ?a_PLAYING ?a_OVER ?a_PLAYERS ?a_NOBODY ?a_AWAY ?a_GRAND ?a_NULL ?a_SAID_SCHNEIDER ?a_SAID_SCHWARZ ?a_SAID_OPEN ?a_PASS ?a_HOLD ?a_LAST_WORD ?a_SECOND_BIDDER ?a_ALL_CARDS ?a_RANKS_OF_A_SUIT ?a_ALL_POINTS ?a_MOST_CARDS ?a_ALL_TRICKS ?a_BEGIN ?a_DEAL ?a_SPEAK ?a_TAKE ?a_LAY ?a_DECLARE ?a_PLAY ?a_LEGAL ?a_HAND ?a_STATE ?a_RESULT ?a_GAMES ?l_GAMES ?v_GAMES ?a_VALUES ?l_VALUES ?v_VALUES ?a_POINTS ?l_POINTS ?v_POINTS ?a_SAID_IN_NULL ?l_SAID_IN_NULL ?v_SAID_IN_NULL ?a_SAID_FROM_HAND ?l_SAID_FROM_HAND ?v_SAID_FROM_HAND ?a_SAID_WITH_CARDS_TAKEN ?l_SAID_WITH_CARDS_TAKEN ?v_SAID_WITH_CARDS_TAKEN ?a_JACKS ?l_JACKS ?v_JACKS ?a_RANKS ?l_RANKS ?v_RANKS ?a_RANKS_IN_NULL ?l_RANKS_IN_NULL ?v_RANKS_IN_NULL ?a_BASES ?l_BASES ?v_BASES ?a_NUMBERS_TOLD ?l_NUMBERS_TOLD ?v_NUMBERS_TOLD ?a_speak ?l_speak ?c_speak ?k_speak ?a_say_value ?l_say_value ?c_say_value ?k_say_value ?a_reply ?l_reply ?c_reply ?k_reply ?a_say_last_word ?l_say_last_word ?c_say_last_word ?k_say_last_word ?a_go_on_with ?l_go_on_with ?c_go_on_with ?k_go_on_with ?a_play_alone ?l_play_alone ?c_play_alone ?k_play_alone ?a_set_of ?l_set_of ?c_set_of ?k_set_of ?a_holds ?l_holds ?c_holds ?k_holds ?a_cards_in ?l_cards_in ?c_cards_in ?k_cards_in ?a_counted ?l_counted ?c_counted ?k_counted ?a_points_of ?l_points_of ?c_points_of ?k_points_of ?a_is_whole_deck ?l_is_whole_deck ?c_is_whole_deck ?k_is_whole_deck ?a_take ?l_take ?c_take ?k_take ?a_lay ?l_lay ?c_lay ?k_lay ?a_declare ?l_declare ?c_declare ?k_declare ?a_sayable ?l_sayable ?c_sayable ?k_sayable ?a_trumps ?l_trumps ?c_trumps ?k_trumps ?a_cards_of_suit ?l_cards_of_suit ?c_cards_of_suit ?k_cards_of_suit ?a_followers ?l_followers ?c_followers ?k_followers ?a_playable ?l_playable ?c_playable ?k_playable ?a_playable_in_trick ?l_playable_in_trick ?c_playable_in_trick ?k_playable_in_trick ?a_strengths ?l_strengths ?c_strengths ?k_strengths ?a_place_that_takes ?l_place_that_takes ?c_place_that_takes ?k_place_that_takes ?a_whose_turn ?l_whose_turn ?c_whose_turn ?k_whose_turn ?a_playable_now ?l_playable_now ?c_playable_now ?k_playable_now ?a_legal ?l_legal ?c_legal ?k_legal ?a_play ?l_play ?c_play ?k_play ?a_end_trick ?l_end_trick ?c_end_trick ?k_end_trick ?a_is_played_out ?l_is_played_out ?c_is_played_out ?k_is_played_out ?a_points_so_far ?l_points_so_far ?c_points_so_far ?k_points_so_far ?a_sure ?l_sure ?c_sure ?k_sure ?a_best_in_trick ?l_best_in_trick ?c_best_in_trick ?k_best_in_trick ?a_playable_here ?l_playable_here ?c_playable_here ?k_playable_here ?a_after_trick ?l_after_trick ?c_after_trick ?k_after_trick ?a_best_from ?l_best_from ?c_best_from ?k_best_from ?a_result ?l_result ?c_result ?k_result ?a_reckoned ?l_reckoned ?c_reckoned ?k_reckoned ?a_least_multiple ?l_least_multiple ?c_least_multiple ?k_least_multiple ?a_worth_of ?l_worth_of ?c_worth_of ?k_worth_of ?a_worth_of_null ?l_worth_of_null ?c_worth_of_null ?k_worth_of_null ?a_times ?l_times ?c_times ?k_times ?a_tops ?l_tops ?c_tops ?k_tops ?a_is_won ?l_is_won ?c_is_won ?k_is_won ?a_has_said ?l_has_said ?c_has_said ?k_has_said ?a_hand ?l_hand ?c_hand ?k_hand ?a_state ?l_state ?c_state ?k_state ?a_who_acts ?l_who_acts ?c_who_acts ?k_who_acts ?a_answers ?l_answers ?c_answers ?k_answers ?a_end_of_call ?l_end_of_call ?c_end_of_call ?k_end_of_call ?a_answer_call ?l_answer_call ?c_answer_call ?k_answer_call ?a_deal ?l_deal ?c_deal ?k_deal ?a_move ?l_move ?c_move ?k_move ?a_tell ?l_tell ?c_tell ?k_tell ?a_Ending ?i_Ending ?n_Ending ?l_Ending ?c_Ending ?k_Ending ?pg_Ending ?hd_Ending ?po_Ending ?sa_Ending ?mk_Ending ?kc_Ending ?no_Ending_0 ?no_Ending_1 ?no_Ending_2 ?no_Ending_3 ?no_Ending_4 ?no_Ending_5 ?no_Ending_6 ?a_Game ?i_Game ?n_Game ?l_Game ?c_Game ?k_Game ?pg_Game ?hd_Game ?po_Game ?sa_Game ?mk_Game ?kc_Game ?no_Game_0 ?no_Game_1 ?no_Game_2 ?no_Game_3 ?no_Game_4 ?no_Game_5 ?no_Game_6 ?no_Game_7 ?no_Game_8 ?no_Game_9 ?no_Game_10 ?no_Game_11 ?no_Game_12 ?no_Game_13 ?no_Game_14 ?no_Game_15 ?a_Desk ?i_Desk ?n_Desk ?l_Desk ?c_Desk ?k_Desk ?pg_Desk ?hd_Desk ?po_Desk ?sa_Desk ?mk_Desk ?kc_Desk ?no_Desk_0 ?b_len ?b_max ?b_min ?b_sorted ?b_list ?b_range ?b_sum ?b_abs ?b_enumerate
      (case a_DONE => k_is)
      (case a_REFUSED => k_is)
      (case a_TOO_MANY_CARDS => k_is)
      (case a_NO_GAME => k_is)
      (case a_VALUE_AWAITED => k_is)
      (case a_REPLY_AWAITED => k_is)
      (case a_LAST_WORD_AWAITED => k_is)
      (case a_TAKING_AWAITED => k_is)
      (case a_LAYING_AWAITED => k_is)
      (case a_DECLARATION_AWAITED => k_is)
      (case a_PLAYING => k_is)
      (case a_OVER => k_is)
      (case a_PLAYERS => k_is)
      (case a_NOBODY => k_is)
      (case a_AWAY => k_is)
      (case a_GRAND => k_is)
      (case a_NULL => k_is)
      (case a_SAID_SCHNEIDER => k_is)
      (case a_SAID_SCHWARZ => k_is)
      (case a_SAID_OPEN => k_is)
      (case a_PASS => k_is)
      (case a_HOLD => k_is)
      (case a_LAST_WORD => k_is)
      (case a_SECOND_BIDDER => k_is)
      (case a_ALL_CARDS => k_is)
      (case a_RANKS_OF_A_SUIT => k_is)
      (case a_ALL_POINTS => k_is)
      (case a_MOST_CARDS => k_is)
      (case a_ALL_TRICKS => k_is)
      (case a_BEGIN => k_is)
      (case a_DEAL => k_is)
      (case a_SPEAK => k_is)
      (case a_TAKE => k_is)
      (case a_LAY => k_is)
      (case a_DECLARE => k_is)
      (case a_PLAY => k_is)
      (case a_LEGAL => k_is)
      (case a_HAND => k_is)
      (case a_STATE => k_is)
      (case a_RESULT => k_is)
      (case a_GAMES => k_is)
      (case l_GAMES => k_is)
      (case v_GAMES => rfl)
      (case a_VALUES => k_is)
      (case l_VALUES => k_is)
      (case v_VALUES => rfl)
      (case a_POINTS => k_is)
      (case l_POINTS => k_is)
      (case v_POINTS => rfl)
      (case a_SAID_IN_NULL => k_is)
      (case l_SAID_IN_NULL => k_is)
      (case v_SAID_IN_NULL => rfl)
      (case a_SAID_FROM_HAND => k_is)
      (case l_SAID_FROM_HAND => k_is)
      (case v_SAID_FROM_HAND => rfl)
      (case a_SAID_WITH_CARDS_TAKEN => k_is)
      (case l_SAID_WITH_CARDS_TAKEN => k_is)
      (case v_SAID_WITH_CARDS_TAKEN => rfl)
      (case a_JACKS => k_is)
      (case l_JACKS => k_is)
      (case v_JACKS => rfl)
      (case a_RANKS => k_is)
      (case l_RANKS => k_is)
      (case v_RANKS => rfl)
      (case a_RANKS_IN_NULL => k_is)
      (case l_RANKS_IN_NULL => k_is)
      (case v_RANKS_IN_NULL => rfl)
      (case a_BASES => k_is)
      (case l_BASES => k_is)
      (case v_BASES => rfl)
      (case a_NUMBERS_TOLD => k_is)
      (case l_NUMBERS_TOLD => k_is)
      (case v_NUMBERS_TOLD => rfl)
      (case a_speak => k_is)
      (case l_speak => k_is)
      (case c_speak => k_is)
      (case k_speak => k_is)
      (case a_say_value => k_is)
      (case l_say_value => k_is)
      (case c_say_value => k_is)
      (case k_say_value => k_is)
      (case a_reply => k_is)
      (case l_reply => k_is)
      (case c_reply => k_is)
      (case k_reply => k_is)
      (case a_say_last_word => k_is)
      (case l_say_last_word => k_is)
      (case c_say_last_word => k_is)
      (case k_say_last_word => k_is)
      (case a_go_on_with => k_is)
      (case l_go_on_with => k_is)
      (case c_go_on_with => k_is)
      (case k_go_on_with => k_is)
      (case a_play_alone => k_is)
      (case l_play_alone => k_is)
      (case c_play_alone => k_is)
      (case k_play_alone => k_is)
      (case a_set_of => k_is)
      (case l_set_of => k_is)
      (case c_set_of => k_is)
      (case k_set_of => k_is)
      (case a_holds => k_is)
      (case l_holds => k_is)
      (case c_holds => k_is)
      (case k_holds => k_is)
      (case a_cards_in => k_is)
      (case l_cards_in => k_is)
      (case c_cards_in => k_is)
      (case k_cards_in => k_is)
      (case a_counted => k_is)
      (case l_counted => k_is)
      (case c_counted => k_is)
      (case k_counted => k_is)
      (case a_points_of => k_is)
      (case l_points_of => k_is)
      (case c_points_of => k_is)
      (case k_points_of => k_is)
      (case a_is_whole_deck => k_is)
      (case l_is_whole_deck => k_is)
      (case c_is_whole_deck => k_is)
      (case k_is_whole_deck => k_is)
      (case a_take => k_is)
      (case l_take => k_is)
      (case c_take => k_is)
      (case k_take => k_is)
      (case a_lay => k_is)
      (case l_lay => k_is)
      (case c_lay => k_is)
      (case k_lay => k_is)
      (case a_declare => k_is)
      (case l_declare => k_is)
      (case c_declare => k_is)
      (case k_declare => k_is)
      (case a_sayable => k_is)
      (case l_sayable => k_is)
      (case c_sayable => k_is)
      (case k_sayable => k_is)
      (case a_trumps => k_is)
      (case l_trumps => k_is)
      (case c_trumps => k_is)
      (case k_trumps => k_is)
      (case a_cards_of_suit => k_is)
      (case l_cards_of_suit => k_is)
      (case c_cards_of_suit => k_is)
      (case k_cards_of_suit => k_is)
      (case a_followers => k_is)
      (case l_followers => k_is)
      (case c_followers => k_is)
      (case k_followers => k_is)
      (case a_playable => k_is)
      (case l_playable => k_is)
      (case c_playable => k_is)
      (case k_playable => k_is)
      (case a_playable_in_trick => k_is)
      (case l_playable_in_trick => k_is)
      (case c_playable_in_trick => k_is)
      (case k_playable_in_trick => k_is)
      (case a_strengths => k_is)
      (case l_strengths => k_is)
      (case c_strengths => k_is)
      (case k_strengths => k_is)
      (case a_place_that_takes => k_is)
      (case l_place_that_takes => k_is)
      (case c_place_that_takes => k_is)
      (case k_place_that_takes => k_is)
      (case a_whose_turn => k_is)
      (case l_whose_turn => k_is)
      (case c_whose_turn => k_is)
      (case k_whose_turn => k_is)
      (case a_playable_now => k_is)
      (case l_playable_now => k_is)
      (case c_playable_now => k_is)
      (case k_playable_now => k_is)
      (case a_legal => k_is)
      (case l_legal => k_is)
      (case c_legal => k_is)
      (case k_legal => k_is)
      (case a_play => k_is)
      (case l_play => k_is)
      (case c_play => k_is)
      (case k_play => k_is)
      (case a_end_trick => k_is)
      (case l_end_trick => k_is)
      (case c_end_trick => k_is)
      (case k_end_trick => k_is)
      (case a_is_played_out => k_is)
      (case l_is_played_out => k_is)
      (case c_is_played_out => k_is)
      (case k_is_played_out => k_is)
      (case a_points_so_far => k_is)
      (case l_points_so_far => k_is)
      (case c_points_so_far => k_is)
      (case k_points_so_far => k_is)
      (case a_sure => k_is)
      (case l_sure => k_is)
      (case c_sure => k_is)
      (case k_sure => k_is)
      (case a_best_in_trick => k_is)
      (case l_best_in_trick => k_is)
      (case c_best_in_trick => k_is)
      (case k_best_in_trick => k_is)
      (case a_playable_here => k_is)
      (case l_playable_here => k_is)
      (case c_playable_here => k_is)
      (case k_playable_here => k_is)
      (case a_after_trick => k_is)
      (case l_after_trick => k_is)
      (case c_after_trick => k_is)
      (case k_after_trick => k_is)
      (case a_best_from => k_is)
      (case l_best_from => k_is)
      (case c_best_from => k_is)
      (case k_best_from => k_is)
      (case a_result => k_is)
      (case l_result => k_is)
      (case c_result => k_is)
      (case k_result => k_is)
      (case a_reckoned => k_is)
      (case l_reckoned => k_is)
      (case c_reckoned => k_is)
      (case k_reckoned => k_is)
      (case a_least_multiple => k_is)
      (case l_least_multiple => k_is)
      (case c_least_multiple => k_is)
      (case k_least_multiple => k_is)
      (case a_worth_of => k_is)
      (case l_worth_of => k_is)
      (case c_worth_of => k_is)
      (case k_worth_of => k_is)
      (case a_worth_of_null => k_is)
      (case l_worth_of_null => k_is)
      (case c_worth_of_null => k_is)
      (case k_worth_of_null => k_is)
      (case a_times => k_is)
      (case l_times => k_is)
      (case c_times => k_is)
      (case k_times => k_is)
      (case a_tops => k_is)
      (case l_tops => k_is)
      (case c_tops => k_is)
      (case k_tops => k_is)
      (case a_is_won => k_is)
      (case l_is_won => k_is)
      (case c_is_won => k_is)
      (case k_is_won => k_is)
      (case a_has_said => k_is)
      (case l_has_said => k_is)
      (case c_has_said => k_is)
      (case k_has_said => k_is)
      (case a_hand => k_is)
      (case l_hand => k_is)
      (case c_hand => k_is)
      (case k_hand => k_is)
      (case a_state => k_is)
      (case l_state => k_is)
      (case c_state => k_is)
      (case k_state => k_is)
      (case a_who_acts => k_is)
      (case l_who_acts => k_is)
      (case c_who_acts => k_is)
      (case k_who_acts => k_is)
      (case a_answers => k_is)
      (case l_answers => k_is)
      (case c_answers => k_is)
      (case k_answers => k_is)
      (case a_end_of_call => k_is)
      (case l_end_of_call => k_is)
      (case c_end_of_call => k_is)
      (case k_end_of_call => k_is)
      (case a_answer_call => k_is)
      (case l_answer_call => k_is)
      (case c_answer_call => k_is)
      (case k_answer_call => k_is)
      (case a_deal => k_is)
      (case l_deal => k_is)
      (case c_deal => k_is)
      (case k_deal => k_is)
      (case a_move => k_is)
      (case l_move => k_is)
      (case c_move => k_is)
      (case k_move => k_is)
      (case a_tell => k_is)
      (case l_tell => k_is)
      (case c_tell => k_is)
      (case k_tell => k_is)
      (case a_Ending => k_is)
      (case i_Ending => k_is)
      (case n_Ending => k_is)
      (case l_Ending => k_is)
      (case c_Ending => k_is)
      (case k_Ending => k_is)
      (case pg_Ending => k_is)
      (case hd_Ending => k_is)
      (case po_Ending => k_is)
      (case sa_Ending => k_is)
      (case mk_Ending => k_is)
      (case kc_Ending => k_is)
      (case no_Ending_0 => k_is)
      (case no_Ending_1 => k_is)
      (case no_Ending_2 => k_is)
      (case no_Ending_3 => k_is)
      (case no_Ending_4 => k_is)
      (case no_Ending_5 => k_is)
      (case no_Ending_6 => k_is)
      (case a_Game => k_is)
      (case i_Game => k_is)
      (case n_Game => k_is)
      (case l_Game => k_is)
      (case c_Game => k_is)
      (case k_Game => k_is)
      (case pg_Game => k_is)
      (case hd_Game => k_is)
      (case po_Game => k_is)
      (case sa_Game => k_is)
      (case mk_Game => k_is)
      (case kc_Game => k_is)
      (case no_Game_0 => k_is)
      (case no_Game_1 => k_is)
      (case no_Game_2 => k_is)
      (case no_Game_3 => k_is)
      (case no_Game_4 => k_is)
      (case no_Game_5 => k_is)
      (case no_Game_6 => k_is)
      (case no_Game_7 => k_is)
      (case no_Game_8 => k_is)
      (case no_Game_9 => k_is)
      (case no_Game_10 => k_is)
      (case no_Game_11 => k_is)
      (case no_Game_12 => k_is)
      (case no_Game_13 => k_is)
      (case no_Game_14 => k_is)
      (case no_Game_15 => k_is)
      (case a_Desk => k_is)
      (case i_Desk => k_is)
      (case n_Desk => k_is)
      (case l_Desk => k_is)
      (case c_Desk => k_is)
      (case k_Desk => k_is)
      (case pg_Desk => k_is)
      (case hd_Desk => k_is)
      (case po_Desk => k_is)
      (case sa_Desk => k_is)
      (case mk_Desk => k_is)
      (case kc_Desk => k_is)
      (case no_Desk_0 => k_is)
      (case b_len => k_is)
      (case b_max => k_is)
      (case b_min => k_is)
      (case b_sorted => k_is)
      (case b_list => k_is)
      (case b_range => k_is)
      (case b_sum => k_is)
      (case b_abs => k_is)
      (case b_enumerate => k_is)
    obtain ⟨T⟩ := T
    have e := hmg.symm.trans T.d_answers.glob
    cases e
    exact ⟨T.d_answers.fd, fun s u => .of_eq (T.d_answers.ba [u] rfl), fun base kb nb => Prog.ok_answers T⟩
