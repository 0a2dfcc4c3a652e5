import PyProof.Rows.All
import Wide.All
import OpenK.AllK
import Wide.FinOn
import PyProof.EqAt
import PyProof.EqKinds
import PyProof.TupleCall
import KE.BitLaws
import Open.SpecLaws
import KE.OsHead
import KE.OsGo
import PySem.Challenge.RW_sweptheap_s01_answers
set_option Elab.async false
set_option linter.all false
set_option maxRecDepth 100000
/-! THE HAND LAYER, for ints, bools, texts, own classes, lists, tuples, dicts, comprehensions, walks over dicts, enumerate, zip, reversed, texts, calls, loops. Paste it whole ahead of your own text; what your proof does not reach may be deleted. -/
namespace L2
open PySem PySem.Spec PyProof.Rows

/-- a key: an int or a str -/
abbrev Key := Sum Int Str
def keyIs : Key → Value → Bool
  | .inl k, v => Value.isInt k v
  | .inr x, v => Value.isStrOf x v
def keyH (w : World) : Key → Int
  | .inl k => hashInt k
  | .inr x => hashStr w x
theorem keyIs_shape : ∀ {k : Key} {v : Value}, keyIs k v = true → (∃ i t, k = Sum.inl i ∧ v = Value.int i t) ∨ (∃ x t, k = Sum.inr x ∧ v = Value.str x t)
  | .inl i, v, h => by
    obtain ⟨t, e⟩ := Value.isInt_shape (k := i) (v := v) h
    exact .inl ⟨i, t, rfl, e⟩
  | .inr x, v, h => by
    obtain ⟨t, e⟩ := Value.isStrOf_shape (x := x) (v := v) h
    exact .inr ⟨x, t, rfl, e⟩
theorem keyIs_int (i : Int) (t : Tok) : keyIs (.inl i) (.int i t) = true := by simp [keyIs, Value.isInt]
theorem keyIs_str (x : Str) (t : Tok) : keyIs (.inr x) (.str x t) = true := by simp [keyIs, Value.isStrOf]
theorem key_ll (a b : Int) : decide ((Sum.inl a : Key) = Sum.inl b) = (a == b) := by
  by_cases e : a = b
  · subst e; simp
  · have h : ¬ (Sum.inl a : Key) = Sum.inl b := fun q => e (Sum.inl.inj q)
    rw [decide_eq_false h]
    exact (beq_eq_false_iff_ne.mpr e).symm
theorem key_rr (a b : Str) : decide ((Sum.inr a : Key) = Sum.inr b) = decide (a = b) := by
  by_cases e : a = b
  · subst e; simp
  · have h : ¬ (Sum.inr a : Key) = Sum.inr b := fun q => e (Sum.inr.inj q)
    rw [decide_eq_false h, decide_eq_false e]
theorem key_lr (a : Int) (b : Str) : decide ((Sum.inl a : Key) = Sum.inr b) = false := decide_eq_false (fun q => nomatch q)
theorem key_rl (a : Str) (b : Int) : decide ((Sum.inr a : Key) = Sum.inl b) = false := decide_eq_false (fun q => nomatch q)

def mixKind (prog : Program) (w : World) : PySem.KeyKind prog w Key where
  is := keyIs
  hash := keyH w
  inj := fun v a b ha hb => by
    rcases keyIs_shape ha with ⟨i, t, rfl, rfl⟩ | ⟨x, t, rfl, rfl⟩
    · rcases keyIs_shape hb with ⟨j, u, rfl, e⟩ | ⟨y, u, rfl, e⟩
      · injection e with e1 _; rw [e1]
      · exact nomatch e
    · rcases keyIs_shape hb with ⟨j, u, rfl, e⟩ | ⟨y, u, rfl, e⟩
      · exact nomatch e
      · injection e with e1 _; rw [e1]
  byValue := fun k v h => by
    rcases keyIs_shape h with ⟨i, t, rfl, rfl⟩ | ⟨x, t, rfl, rfl⟩ <;> rfl
  pyHash := fun hv h => by
    rcases keyIs_shape hv with ⟨i, t, rfl, rfl⟩ | ⟨x, t, rfl, rfl⟩
    · exact wpAny_pyHash_int h
    · exact wpAny_pyHash_str h
  eqBool := fun hu hv h => by
    rcases keyIs_shape hu with ⟨i, t, rfl, rfl⟩ | ⟨x, t, rfl, rfl⟩
    · rcases keyIs_shape hv with ⟨j, u, rfl, rfl⟩ | ⟨y, u, rfl, rfl⟩
      · rw [key_ll] at h; exact wpAny_eqBool_int h
      · rw [key_lr] at h; exact SeqAt.EqAt.int_str i t y u _ _ _ _ h
    · rcases keyIs_shape hv with ⟨j, u, rfl, rfl⟩ | ⟨y, u, rfl, rfl⟩
      · rw [key_rl] at h; exact SeqAt.EqAt.str_int x t j u _ _ _ _ h
      · rw [key_rr] at h; exact wpAny_eqBool_str h
  «strs» := fun k x t v h => by
    rcases keyIs_shape h with ⟨i, u, rfl, e⟩ | ⟨y, u, rfl, e⟩
    · exact nomatch e
    · injection e with e1 _
      subst e1
      cases v <;> rfl

theorem mixKind_int (prog : Program) (w : World) (i : Int) (t : Tok) : (mixKind prog w).is (.inl i) (.int i t) = true := keyIs_int i t
theorem mixKind_str (prog : Program) (w : World) (x : Str) (t : Tok) : (mixKind prog w).is (.inr x) (.str x t) = true := keyIs_str x t
end L2

namespace L2
open PySem PySem.Spec PyProof.Rows

/-- a value, without the heap -/
inductive V where
  | non | bl (b : Bool) | int (i : Int) | str (x : Str) | byt (b : Array UInt8) | flt (b : UInt64) | ref (a : Addr) | ty (n : String)
  deriving DecidableEq

def RelV : V → Value → Prop
  | .non, u => u = Value.none
  | .bl b, u => u = Value.bool b
  | .int i, u => ∃ t, u = Value.int i t
  | .str x, u => ∃ t, u = Value.str x t
  | .byt b, u => ∃ t, u = Value.bytes b t
  | .flt b, u => ∃ t, u = Value.float b t
  | .ref a, u => u = Value.ref a
  | .ty n, u => u = Value.type n

abbrev Vals : List V → List Value → Prop := Paired RelV
theorem Vals.length {xs : List V} {us : List Value} (r : Vals xs us) : xs.length = us.length := Paired.length r
theorem Vals.get : ∀ {xs : List V} {us : List Value} {i : Nat} {x : V}, Vals xs us → xs[i]? = some x → ∃ u, us[i]? = some u ∧ RelV x u
  | _, _, _, _, .nil, e => by simp at e
  | _, _, 0, _, .cons r _, e => by simp at e; subst e; exact ⟨_, rfl, r⟩
  | _, _, i + 1, x, .cons _ t, e => by
    obtain ⟨u, h1, h2⟩ := Vals.get (i := i) (x := x) t (by simpa using e)
    exact ⟨u, by simpa using h1, h2⟩
theorem Vals.set {x : V} {u : Value} (r : RelV x u) : ∀ {xs : List V} {us : List Value} (i : Nat), Vals xs us → Vals (xs.set i x) (us.set i u)
  | _, _, _, .nil => .nil
  | _, _, 0, .cons _ t => .cons r t
  | _, _, i + 1, .cons q t => .cons q (Vals.set r i t)
theorem Vals.append : ∀ {xs ys : List V} {us ws : List Value}, Vals xs us → Vals ys ws → Vals (xs ++ ys) (us ++ ws)
  | _, _, _, _, .nil, s => s
  | _, _, _, _, .cons r t, s => .cons r (Vals.append t s)
theorem Vals.take : ∀ {xs : List V} {us : List Value} (n : Nat), Vals xs us → Vals (xs.take n) (us.take n)
  | _, _, 0, _ => .nil
  | _, _, _ + 1, .nil => .nil
  | _, _, n + 1, .cons r t => .cons r (Vals.take n t)
theorem Vals.drop : ∀ {xs : List V} {us : List Value} (n : Nat), Vals xs us → Vals (xs.drop n) (us.drop n)
  | _, _, 0, r => r
  | _, _, _ + 1, .nil => .nil
  | _, _, n + 1, .cons _ t => Vals.drop n t
def RelO : Option V → Option Value → Prop
  | some v, some u => RelV v u
  | none, none => True
  | _, _ => False
def KV {κ : Type} : List (κ × V) → List (κ × Value) → Prop := Paired fun (p : κ × V) (q : κ × Value) => p.1 = q.1 ∧ RelV p.2 q.2

/-- a key of a dict (00_mix): an int or a text -/
def kV : Key → V
  | .inl i => .int i
  | .inr x => .str x

/-- what stands at a tracked address -/
inductive HO where
  /-- a list -/
  | lst (xs : List V)
  /-- a tuple (never changes) -/
  | tup (xs : List V)
  /-- a dict whose keys are ints and texts; one whose keys are tuples of ints and texts (the empty one is both) -/
  | dK (kvs : List (Key × V)) | dT (kvs : List (List Key × V))
  /-- a set of ints: its members, its size -/
  | set (S : Int → Bool) (n : Nat)
  /-- an instance of the class at C, its dict at dx, its attributes -/
  | ins (C dx : Addr) (fs : List (Str × V))
  /-- the dict of the instance at x -/
  | own (x : Addr)
  /-- the dict of an exception -/
  | xd (fs : List (Str × V))
  /-- a bound method, f of x -/
  | met (f x : Addr)
  /-- a range object lo, lo + 1, .. below hi -/
  | rng (lo hi : Int)
  /-- a thing that is known to the object (the script; a dict while a loop walks it): read, never written while it is so -/
  | frz (o : Obj) (u : HO)
  /-- a code object's table -/
  | tbl (ps : Array Value)
  /-- any other thing, by what is true of its one object (a def of one's own: SetO a S n := HO.ext fun h => ..) -/
  | ext (φ : Heap → Prop)

abbrev Hp := Addr → Option HO
def upd (H : Hp) (a : Addr) (o : HO) : Hp := fun b => if b = a then some o else H b
theorem upd_same {H : Hp} {a : Addr} {o : HO} : upd H a o a = some o := by unfold upd; rw [if_pos rfl]
theorem upd_ne {H : Hp} {a b : Addr} {o : HO} (h : b ≠ a) : upd H a o b = H b := by unfold upd; rw [if_neg h]
theorem upd_upd {H : Hp} {a : Addr} {o u : HO} : upd (upd H a o) a u = upd H a u := by
  funext b; unfold upd; split <;> rfl
/-- two objects of different content stand apart -/
theorem ne_of {H : Hp} {a b : Addr} {o u : HO} (h : H a = some o) (h' : H b = some u) (d : o ≠ u) : a ≠ b := by
  intro e; subst e; rw [h] at h'; exact d (Option.some.inj h')
theorem ne_of_none {H : Hp} {a b : Addr} {o : HO} (h : H a = some o) (h' : H b = none) : a ≠ b := by
  intro e; subst e; rw [h] at h'; cases h'

section
variable (P : Program) (w : World)
def ObjOk (H : Hp) (h : Heap) (a : Addr) : HO → Prop
  | .lst xs => xs.length ≤ sizeLine ∧ ∃ (its : List Value) (n : Nat), Vals xs its ∧ h.get? a = some { cls := .type "list", data := .seq its.toArray n }
  | .tup xs => xs.length ≤ sizeLine ∧ ∃ its : List Value, Vals xs its ∧ IsTup h a its.toArray
  | .dK kvs => kvs.length ≤ sizeLine ∧ (a == sysModules) = false ∧ ∃ vs, KV kvs vs ∧ h.DictOf (mixKind P w) a vs
  | .dT kvs => kvs.length ≤ sizeLine ∧ (a == sysModules) = false ∧ ∃ xs : List (List Key × Addr × Value),
      Paired (fun (p : List Key × V) (q : List Key × Addr × Value) => p.1 = q.1 ∧ H q.2.1 = some (.tup (p.1.map kV)) ∧ RelV p.2 q.2.2) kvs xs ∧
      ∃ o es ep, h.get? a = some o ∧ o.ExactDict ∧ o.data = .dict es ep ∧ es.toList = xs.map (entryOfKey (tupleKind (mixKind P w))) ∧ (xs.map (·.1)).Nodup
  | .set S n => h.SetOf (intKind P w) a S n
  | .ins C dx fs => H dx = some (.own a) ∧ fs.length ≤ 1000 ∧ dx ≠ a ∧ h.get? a = some (PySem.W.instObj C dx) ∧
      ∃ mA, h.Ns1 dx mA ∧ (∀ f, RelO (fs.lookup f) (mA f)) ∧ PySem.Within mA (fs.map (·.1))
  | .own _ => ∃ o, h.get? a = some o
  | .xd fs => ∃ mA, h.Ns1 a mA ∧ ∀ f, RelO (fs.lookup f) (mA f)
  | .rng lo hi => ∃ t u v, h.get? a = some { cls := .type "range", data := .fields #[.int lo t, .int hi u, .int 1 v] }
  | .frz o u => h.get? a = some o ∧ ObjOk H h a u
  | .tbl ps => h.get? a = some { cls := .none, data := .fields ps }
  | .met f x => h.get? a = some (PySem.W.methodObj (.ref f) (.ref x))
  | .ext φ => φ h ∧ (∃ o, h.get? a = some o) ∧ ∀ h1 h2 : Heap, φ h1 → (∀ o, h1.get? a = some o → h2.get? a = some o) → φ h2
/-- the abstract heap is held -/
def HOk (H : Hp) (h : Heap) : Prop := ∀ a o, H a = some o → ObjOk P w H h a o
end

section
variable {P : Program} {w : World} {H H' : Hp} {h h' : Heap} {a : Addr} {o : HO}
theorem ObjOk.lt (x : ObjOk P w H h a o) : a < h.objs.size := by
  cases o with
  | lst xs => obtain ⟨_, _, _, _, e⟩ := x; exact Heap.lt_size e
  | tup xs => obtain ⟨_, _, _, p⟩ := x; exact p.lt
  | dK kvs => obtain ⟨_, _, _, _, o, _, _, e, _⟩ := x; exact Heap.lt_size e
  | dT kvs => obtain ⟨_, _, _, _, o, _, _, e, _⟩ := x; exact Heap.lt_size e
  | set S n => obtain ⟨o, _, _, _, e, _⟩ := x; exact Heap.lt_size e
  | ins C dx fs => obtain ⟨_, _, _, e, _⟩ := x; exact Heap.lt_size e
  | own y => obtain ⟨_, e⟩ := x; exact Heap.lt_size e
  | xd fs => obtain ⟨_, ⟨_, _, _, e, _⟩, _⟩ := x; exact Heap.lt_size e
  | rng lo hi => obtain ⟨_, _, _, e⟩ := x; exact Heap.lt_size e
  | frz ob u => obtain ⟨e, _⟩ := x; exact Heap.lt_size e
  | tbl ps => exact Heap.lt_size (show h.get? a = some _ from x)
  | met f y => exact Heap.lt_size (show h.get? a = some _ from x)
  | ext φ => obtain ⟨_, ⟨_, e⟩, _⟩ := x; exact Heap.lt_size e
theorem Paired.mapP {α β : Type} {F G : α → β → Prop} : ∀ {l₁ : List α} {l₂ : List β}, Paired F l₁ l₂ → (∀ a b, F a b → G a b) → Paired G l₁ l₂
  | _, _, .nil, _ => .nil
  | _, _, .cons r t, f => .cons (f _ _ r) (Paired.mapP t f)
/-- what an object's description leans on: its own object, its own dict, the tuples -/
theorem ObjOk.stay (x : ObjOk P w H h a o) (k : ∀ b u, (b = a ∨ H b = some (.own a)) → h.get? b = some u → h'.get? b = some u)
    (ho : ∀ b, H b = some (.own a) → H' b = some (.own a)) (ht : ∀ b xs, H b = some (.tup xs) → H' b = some (.tup xs)) : ObjOk P w H' h' a o := by
  induction o with
  | lst xs => obtain ⟨z, its, n, r, e⟩ := x; exact ⟨z, its, n, r, k _ _ (.inl rfl) e⟩
  | tup xs => obtain ⟨z, its, r, ob, e, c⟩ := x; exact ⟨z, its, r, ob, k _ _ (.inl rfl) e, c⟩
  | dK kvs => obtain ⟨z, y, vs, r, ob, es, ep, e, c⟩ := x; exact ⟨z, y, vs, r, ob, es, ep, k _ _ (.inl rfl) e, c⟩
  | dT kvs =>
    obtain ⟨z, y, xs, r, ob, es, ep, e, c⟩ := x
    exact ⟨z, y, xs, Paired.mapP r fun p q z => ⟨z.1, ht _ _ z.2.1, z.2.2⟩, ob, es, ep, k _ _ (.inl rfl) e, c⟩
  | set S n => obtain ⟨ob, es, ep, t, e, c⟩ := x; exact ⟨ob, es, ep, t, k _ _ (.inl rfl) e, c⟩
  | ins C dx fs =>
    obtain ⟨d, z, ne, e, mA, ⟨od, es, ep, e2, c⟩, r⟩ := x
    exact ⟨ho _ d, z, ne, k _ _ (.inl rfl) e, mA, ⟨od, es, ep, k _ _ (.inr d) e2, c⟩, r⟩
  | own y => obtain ⟨ob, e⟩ := x; exact ⟨ob, k _ _ (.inl rfl) e⟩
  | xd fs => obtain ⟨mA, ⟨od, es, ep, e, c⟩, r⟩ := x; exact ⟨mA, ⟨od, es, ep, k _ _ (.inl rfl) e, c⟩, r⟩
  | rng lo hi => obtain ⟨t, u, v, e⟩ := x; exact ⟨t, u, v, k _ _ (.inl rfl) e⟩
  | frz ob u ih => obtain ⟨e, q⟩ := x; exact ⟨k _ _ (.inl rfl) e, ih q⟩
  | tbl ps =>
    have e : h.get? a = some { cls := .none, data := .fields ps } := x
    show h'.get? a = some { cls := .none, data := .fields ps }
    exact k a _ (.inl rfl) e
  | met f y =>
    have e : h.get? a = some (PySem.W.methodObj (.ref f) (.ref y)) := x
    show h'.get? a = some (PySem.W.methodObj (.ref f) (.ref y))
    exact k a _ (.inl rfl) e
  | ext φ => obtain ⟨p, ⟨o, e⟩, st⟩ := x; exact ⟨st _ _ p fun o q => k _ _ (.inl rfl) q, ⟨o, k _ _ (.inl rfl) e⟩, st⟩
theorem HOk.lt (x : HOk P w H h) (e : H a = some o) : a < h.objs.size := (x a o e).lt
theorem HOk.fresh (x : HOk P w H h) (e : h.objs.size ≤ a) : H a = none := by
  cases q : H a with
  | none => rfl
  | some u => exact absurd (Nat.lt_of_lt_of_le (x.lt q) e) (Nat.lt_irrefl _)
/-- every object of the heap is kept -/
theorem HOk.kept (x : HOk P w H h) (k : ∀ b u, h.get? b = some u → h'.get? b = some u) : HOk P w H h' := fun a o e =>
  (x a o e).stay (fun b u _ q => k b u q) (fun _ q => q) fun _ _ q => q
/-- a new object is laid and tracked -/
theorem HOk.laid (x : HOk P w H h) (k : ∀ b u, h.get? b = some u → h'.get? b = some u) (hp : h.objs.size ≤ a) (new : ObjOk P w (upd H a o) h' a o) : HOk P w (upd H a o) h' := fun b u e => by
  have hn := x.fresh hp
  by_cases hb : b = a
  · subst hb; rw [upd_same] at e; cases e; exact new
  · rw [upd_ne hb] at e
    exact (x b u e).stay (fun c v _ q => k c v q) (fun c q => by rw [upd_ne (ne_of_none q hn)]; exact q) fun c xs q => by rw [upd_ne (ne_of_none q hn)]; exact q
end

/-- what may be read as u: it is u, or a known u -/
def Rd (H : Hp) (a : Addr) (u : HO) : Prop := H a = some u ∨ ∃ o, H a = some (.frz o u)
theorem Rd.ok {P : Program} {w : World} {H : Hp} {h : Heap} {a : Addr} {u : HO} (r : Rd H a u) (x : HOk P w H h) : ObjOk P w H h a u := by
  rcases r with r | ⟨o, r⟩
  · exact x a u r
  · obtain ⟨_, q⟩ := x a _ r
    exact q
/-- what may be written -/
def Mut : Option HO → Prop
  | some (.lst _) => True
  | some (.dK _) => True
  | some (.dT _) => True
  | some (.set _ _) => True
  | some (.ins _ _ _) => True
  | some (.ext _) => True
  | _ => False
section
variable {P : Program} {w : World} {H : Hp} {h h' : Heap} {x e : Addr} {o' : HO}
/-- the object at e is changed: x itself, or the dict of the instance x -/
theorem HOk.write (ok : HOk P w H h) (mu : Mut (H x)) (he : e = x ∨ H e = some (.own x)) (k : ∀ b u, b ≠ e → h.get? b = some u → h'.get? b = some u) (heo : ∃ u, h'.get? e = some u)
    (new : ObjOk P w (upd H x o') h' x o') : HOk P w (upd H x o') h' := fun b u q => by
  have nown : ∀ c y, H c = some (.own y) → c ≠ x := fun c y r z => by subst z; rw [r] at mu; exact mu
  have ntup : ∀ c xs, H c = some (.tup xs) → c ≠ x := fun c xs r z => by subst z; rw [r] at mu; exact mu
  by_cases hb : b = x
  · subst hb; rw [upd_same] at q; cases q; exact new
  · rw [upd_ne hb] at q
    by_cases hbe : b = e
    · have q' : H b = some (.own x) := by
        rcases he with z | z
        · exact absurd (hbe.trans z) hb
        · rw [hbe]; exact z
      rw [q] at q'; cases q'
      obtain ⟨v, hv⟩ := heo
      exact ⟨v, by rw [hbe]; exact hv⟩
    · refine (ok b u q).stay (fun c v hc r => k c v ?_ r) (fun c r => by rw [upd_ne (nown c b r)]; exact r) fun c xs r => by rw [upd_ne (ntup c xs r)]; exact r
      rcases hc with rfl | hc
      · exact hbe
      · rintro rfl
        rcases he with z | z
        · exact nown c b hc z
        · rw [hc] at z; cases z; exact hb rfl
end

/-! ### kept unless tracked; of the frames at fs (the callers') the slots may change (an exception that passes writes there); of the records at ex (iterators) nothing is said -/
structure Un (fs ex : List Addr) (H H' : Hp) (h h' : Heap) : Prop where
  keep : ∀ b o, h.get? b = some o → H b = none → b ∉ fs → b ∉ ex → h'.get? b = some o
  slot : ∀ b o, h.get? b = some o → H b = none → b ∈ fs → b ∉ ex → ∃ sl, h'.get? b = some { o with slots := sl }
  free : ∀ b o, h.get? b = some o → H b = none → b ∉ ex → H' b = none
  there : ∀ b o, h.get? b = some o → b ∉ ex → ∃ o', h'.get? b = some o'
  tups : ∀ b xs, H b = some (.tup xs) → H' b = some (.tup xs)
  frzs : ∀ b o u, H b = some (.frz o u) → H' b = some (.frz o u)
  tbls : ∀ b ps, H b = some (.tbl ps) → ∃ more, H' b = some (.tbl (ps ++ more))
section
variable {fs fs' ex ex' : List Addr} {H H1 H2 : Hp} {h h1 h2 h' : Heap} {a x e : Addr} {o : HO}
theorem Un.any (u : Un fs ex H H1 h h1) {b : Addr} {ob : Obj} (q : h.get? b = some ob) (n : H b = none) (hx : b ∉ ex) : ∃ sl, h1.get? b = some { ob with slots := sl } := by
  by_cases hb : b ∈ fs
  · exact u.slot b ob q n hb hx
  · exact ⟨ob.slots, u.keep b ob q n hb hx⟩
theorem Un.kept (k : ∀ b u, h.get? b = some u → h'.get? b = some u) : Un fs ex H H h h' :=
  ⟨fun b ob q _ _ _ => k b ob q, fun b ob q _ _ _ => ⟨ob.slots, k b ob q⟩, fun _ _ _ n _ => n, fun b ob q _ => ⟨ob, k b ob q⟩, fun _ _ q => q, fun _ _ _ q => q, fun _ ps q => ⟨#[], by rw [q]; simp⟩⟩
theorem Un.refl : Un fs ex H H h h := Un.kept fun _ _ q => q
theorem Un.laid (k : ∀ b u, h.get? b = some u → h'.get? b = some u) (hp : h.objs.size ≤ a) (hn : H a = none) : Un fs ex H (upd H a o) h h' where
  keep := fun b u q _ _ _ => k b u q
  slot := fun b u q _ _ _ => ⟨u.slots, k b u q⟩
  free := fun b u q n _ => by rw [upd_ne (Nat.ne_of_lt (Nat.lt_of_lt_of_le (Heap.lt_size q) hp))]; exact n
  there := fun b u q _ => ⟨u, k b u q⟩
  tups := fun b xs q => by rw [upd_ne (ne_of_none q hn)]; exact q
  frzs := fun b u xs q => by rw [upd_ne (ne_of_none q hn)]; exact q
  tbls := fun b ps q => ⟨#[], by rw [upd_ne (ne_of_none q hn), q]; simp⟩
theorem Un.write (mu : Mut (H x)) (he : e = x ∨ H e = some (.own x)) (k : ∀ b u, b ≠ e → h.get? b = some u → h'.get? b = some u) (heo : ∃ u, h'.get? e = some u) : Un fs ex H (upd H x o) h h' := by
  have hx : ∀ b, H b = none → b ≠ x := fun b n z => by subst z; rw [n] at mu; exact mu
  have hb : ∀ b, H b = none → b ≠ e := fun b n z => by
    subst z
    rcases he with r | r
    · exact hx b n r
    · rw [n] at r; cases r
  have hm : ∀ b u, H b = some u → ¬ Mut (some u) → b ≠ x := fun b u q nm z => by subst z; rw [q] at mu; exact nm mu
  refine ⟨fun b u q n _ _ => k b u (hb b n) q, fun b u q n _ _ => ⟨u.slots, k b u (hb b n) q⟩, fun b u q n _ => by rw [upd_ne (hx b n)]; exact n, fun b u q _ => ?_,
    fun b xs q => by rw [upd_ne (hm b _ q fun z => z)]; exact q, fun b u xs q => by rw [upd_ne (hm b _ q fun z => z)]; exact q, fun b ps q => ⟨#[], by rw [upd_ne (hm b _ q fun z => z), q]; simp⟩⟩
  by_cases hbe : b = e
  · subst hbe; exact heo
  · exact ⟨u, k b u hbe q⟩
end

/-! ### the heap without what is tracked -/
def trk (h : Heap) (H : Hp) : List Addr := (List.range h.objs.size).filter fun a => (H a).isSome
def hidT (h : Heap) (H : Hp) : Heap := PySem.W.hideAll h (trk h H)
theorem hidT_size (h : Heap) (H : Hp) : (hidT h H).objs.size = h.objs.size := PySem.W.hideAll_size _ _
theorem hidT_get {h : Heap} {H : Hp} {b : Addr} {o : Obj} (e : h.get? b = some o) (n : H b = none) : (hidT h H).get? b = some o :=
  PySem.W.hideAll_get _ e fun hm => by
    have q : (H b).isSome = true := (List.mem_filter.mp hm).2
    rw [n] at q; simp at q
theorem of_hidT {h : Heap} {H : Hp} {b : Addr} {o : Obj} (e : (hidT h H).get? b = some o) : h.get? b = some o ∧ H b = none := by
  have e' : h.get? b = some o := PySem.W.of_hideAll (trk h H) e
  refine ⟨e', ?_⟩
  cases q : H b with
  | none => rfl
  | some x =>
    have hm : b ∈ trk h H := List.mem_filter.mpr ⟨List.mem_range.mpr (Heap.lt_size e'), by simp [q]⟩
    have z : (hidT h H).get? b = none := PySem.W.hideAll_none (trk h H) hm
    rw [z] at e; cases e

/-! ### OpenK's ledger, filled with every new object but one -/
end L2

namespace L2
open PySem PySem.Spec PyProof.Rows

/-- the module's facts, over the base: the heap at the law's entry without what is tracked there -/
structure Mod (K : PySem.W.Frag) (mg : Str → Option Value) (base : Heap) : Prop where
  kin : K.In base
  glob : base.Ns mainGlobals mg
  blt : ∃ mb, base.Ns builtinsNs mb ∧ ∀ x : Str, x ≠ "__name__" → mb x = bootBuiltins x
  nolimit : base.NoLimit

/-- the context: a def's body (or a comprehension's block) running. base: fixed through the whole law; s₀, H₀: the entry; outer: the frames whose slots others may change (a def's callers); stack: all frames that run;
   ex: iterators that were made ahead of the entry and are walked here (a comprehension's); fn: the names whose cells were made at the entry (a def: all; a comprehension's block: its own); calm: not within an except suite; pn: pins that every state bears; xe: what is wanted of an exception that leaves the code -/
structure Cx where
  prog : Program
  w : World
  K : PySem.W.Frag
  mg : Str → Option Value
  base : Heap
  A : Around
  N : List Str
  s_0 : Shared
  H_0 : Hp
  env : Env
  outer : List Env
  stack : List Env
  ex : List Addr
  fn : Str → Bool
  calm : Bool
  pn : List (Addr × Obj)
  xe : Value → Shared → Prop
/-- the callers' frames -/
def frs (l : List Env) : List Addr := l.filterMap (·.frame)
abbrev Cx.fs (X : Cx) : List Addr := frs X.outer

def Vis (sc : Scope) (x : Str) : Prop := sc.names.lookup x = some .local ∨ sc.names.lookup x = some .cell ∨ sc.names.lookup x = some .free
def Loc (sc : Scope) (x : Str) : Prop := sc.names.lookup x = some .local ∨ sc.names.lookup x = some .cell
def Look (env : Env) (h : Heap) (m : Str → Option Value) (x : Str) (u : Value) : Prop :=
  (env.kindOf x = some .local ∧ m x = some u) ∨ ((env.kindOf x = some .cell ∨ env.kindOf x = some .free) ∧ ∃ c, env.cells.lookup x = some c ∧ h.IsCell c (some u))

structure Cx.Ok (X : Cx) : Prop where
  mod : Mod X.K X.mg X.base
  kind : X.env.scope.kind = .function
  glob : X.env.globals = mainGlobals
  blt : X.env.builtins = builtinsNs
  above : X.s_0.heap.objs.size ≤ X.env.locals
  inj : ∀ x y c, X.env.cells.lookup x = some c → X.env.cells.lookup y = some c → x = y
  has : ∀ x, (X.env.kindOf x = some .cell ∨ X.env.kindOf x = some .free) → ∃ c, X.env.cells.lookup x = some c
  cab : ∀ x c, X.fn x = true → X.env.cells.lookup x = some c → X.s_0.heap.objs.size ≤ c
  hd : X.calm = true → X.A.handled = none
  frames : X.A.frames = some X.stack
  stk : X.stack = X.outer ∨ (X.stack = X.env :: X.outer ∧ X.env.frame = some X.env.locals)
  exf : ∀ b ∈ X.ex, b ≠ X.env.locals ∧ ∀ x c, X.env.cells.lookup x = some c → c ≠ b
  bs : ∀ b o, X.base.get? b = some o → X.s_0.heap.get? b = some o ∧ X.H_0 b = none
  bsz : X.base.objs.size ≤ X.s_0.heap.objs.size
  noex : ∀ b o, X.base.get? b = some o → b ∉ X.ex
  exfs : ∀ b ∈ X.ex, b ∉ X.fs
  funs : X.s_0.heap.FunFrames X.base X.outer
  frf : ∀ b ∈ X.fs, X.H_0 b = none

structure Inv (X : Cx) (pins : List (Addr × Obj)) (σ : List (Option V)) (H : Hp) (s : Shared) : Prop where
  ok : X.Ok
  os : s.os = X.s_0.os
  bare : AllBare s.gens
  base : Un X.fs X.ex X.H_0 H X.s_0.heap s.heap
  loc : ∃ m, s.heap.Ns X.env.locals m ∧ ∀ (i : Nat) (x : Str) (v : V), X.N[i]? = some x → σ[i]? = some (some v) → Vis X.env.scope x → ∃ u, RelV v u ∧ Look X.env s.heap m x u
  cell : ∀ x c, X.env.cells.lookup x = some c → ∃ v, s.heap.IsCell c v
  free : H X.env.locals = none
  freeC : ∀ x c, X.env.cells.lookup x = some c → H c = none
  pin : ∀ p ∈ X.pn ++ pins, s.heap.get? p.1 = some p.2 ∧ H p.1 = none ∧ p.1 ≠ X.env.locals ∧ p.1 ∉ X.fs ∧ ∀ v, p.2.data ≠ .cell v
  hok : HOk X.prog X.w H s.heap
  len : σ.length = X.N.length

section
variable {X : Cx} {pins : List (Addr × Obj)} {σ : List (Option V)} {H H' : Hp} {s : Shared} {h' : Heap}

theorem Cx.Ok.nofr (ok : X.Ok) {b : Addr} {o : Obj} (e : X.base.get? b = some o) : b ∉ X.fs := fun hb => by
  have := (ok.funs.mem hb).1
  rw [e] at this; cases this
theorem Inv.bs (I : Inv X pins σ H s) : ∀ b o, X.base.get? b = some o → s.heap.get? b = some o ∧ H b = none := fun b o e =>
  ⟨I.base.keep b o (I.ok.bs b o e).1 (I.ok.bs b o e).2 (I.ok.nofr e) (I.ok.noex b o e), I.base.free b o (I.ok.bs b o e).1 (I.ok.bs b o e).2 (I.ok.noex b o e)⟩
theorem Inv.bk (I : Inv X pins σ H s) : ∀ b o, X.base.get? b = some o → s.heap.get? b = some o := fun b o e => (I.bs b o e).1
theorem Inv.mod (I : Inv X pins σ H s) : Mod X.K X.mg X.base := I.ok.mod
theorem Inv.kIn (I : Inv X pins σ H s) : X.K.In s.heap := I.ok.mod.kin.keeps I.bk
theorem Inv.lt (I : Inv X pins σ H s) : X.env.locals < s.heap.objs.size := let ⟨_, hn, _⟩ := I.loc; hn.lt
theorem Inv.sz (I : Inv X pins σ H s) : X.s_0.heap.objs.size ≤ s.heap.objs.size := Nat.le_trans I.ok.above (Nat.le_of_lt I.lt)
theorem Inv.nofs (I : Inv X pins σ H s) {a : Addr} (h : s.heap.objs.size ≤ a) : a ∉ X.fs := fun hb => by
  obtain ⟨_, o, ho, _⟩ := I.ok.funs.mem hb
  exact absurd (Nat.lt_of_lt_of_le (Heap.lt_size ho) (Nat.le_trans I.sz h)) (Nat.lt_irrefl _)
theorem Inv.cne (I : Inv X pins σ H s) : ∀ x c, X.env.cells.lookup x = some c → c ≠ X.env.locals := fun x c e z => by
  obtain ⟨v, o, ho, hd⟩ := I.cell x c e
  obtain ⟨m, ⟨o', es, ep, ho', hd', _⟩, _⟩ := I.loc
  rw [z, ho'] at ho; cases ho; rw [hd'] at hd; cases hd
theorem Inv.funs (I : Inv X pins σ H s) : s.heap.FunFrames X.base X.outer := by
  have all : ∀ (l : List Env), (∀ b ∈ frs l, b ∈ X.fs) → X.s_0.heap.FunFrames X.base l → s.heap.FunFrames X.base l := by
    intro l
    induction l with
    | nil => intro _ _; trivial
    | cons env r ih =>
      intro hs hl
      obtain ⟨hk, ⟨L, o, hf, hn, ho, hd⟩, hr⟩ := hl
      have hL : L ∈ X.fs := hs L (by unfold frs; rw [List.filterMap_cons, hf]; exact List.mem_cons_self)
      obtain ⟨sl, e⟩ := I.base.slot L o ho (I.ok.frf L hL) hL fun z => I.ok.exfs L z hL
      exact ⟨hk, ⟨L, _, hf, hn, e, hd⟩, ih (fun b hb => hs b (by unfold frs; rw [List.filterMap_cons, hf]; exact List.mem_cons_of_mem _ hb)) hr⟩
  exact all X.outer (fun _ hb => hb) I.ok.funs

/-- the frames that run, for a call -/
theorem Inv.stack (I : Inv X pins σ H s) : s.heap.FunFrames X.base X.stack := by
  rcases I.ok.stk with e | ⟨e, hf⟩
  · rw [e]; exact I.funs
  · rw [e]
    obtain ⟨m, hn, _⟩ := I.loc
    refine .cons (by rw [I.ok.kind]; decide) hf hn ?_ I.funs
    exact Heap.get?_none_of_le (Nat.le_trans I.ok.bsz I.ok.above)
theorem Inv.stkSub (I : Inv X pins σ H s) : ∀ b ∈ frs X.stack, b ∈ X.env.locals :: X.fs := fun b hb => by
  rcases I.ok.stk with e | ⟨e, hf⟩
  · rw [e] at hb; exact List.mem_cons_of_mem _ hb
  · rw [e] at hb
    unfold frs at hb
    rw [List.filterMap_cons, hf] at hb
    exact hb
theorem Inv.stkFree (I : Inv X pins σ H s) : ∀ b ∈ frs X.stack, H b = none := fun b hb => by
  rcases List.mem_cons.mp (I.stkSub b hb) with e | hb
  · rw [e]; exact I.free
  · obtain ⟨_, o, ho, _⟩ := I.ok.funs.mem hb
    exact I.base.free b o ho (I.ok.frf b hb) fun z => I.ok.exfs b z hb

/-- THE STEP: the untracked objects but the frame and the records at ch are kept (the callers' frames up to slots), the frame's map is kept, the new abstract heap is held -/
theorem Inv.step {g' : Array GenState} {t' : Nat} {d' : Drawn} {ch : List Addr} (I : Inv X pins σ H s)
    (hch : ∀ b ∈ ch, (b ∈ X.ex ∨ X.s_0.heap.objs.size ≤ b) ∧ b ≠ X.env.locals ∧ (∀ x c, X.env.cells.lookup x = some c → c ≠ b) ∧ ∀ p ∈ X.pn ++ pins, p.1 ≠ b)
    (keep : ∀ b o, b ≠ X.env.locals → b ∉ X.fs → b ∉ ch → s.heap.get? b = some o → H b = none → h'.get? b = some o)
    (slot : ∀ b o, b ≠ X.env.locals → b ∈ X.fs → b ∉ ch → s.heap.get? b = some o → H b = none → ∃ sl, h'.get? b = some { o with slots := sl }) (free : ∀ b o, b ∉ ch → s.heap.get? b = some o → H b = none → H' b = none)
    (there : ∀ b o, b ∉ ch → s.heap.get? b = some o → ∃ o', h'.get? b = some o')
    (tups : ∀ b xs, H b = some (.tup xs) → H' b = some (.tup xs)) (frzs : ∀ b o u, H b = some (.frz o u) → H' b = some (.frz o u)) (tbls : ∀ b ps, H b = some (.tbl ps) → ∃ more, H' b = some (.tbl (ps ++ more)))
    (ns : ∀ m, s.heap.Ns X.env.locals m → h'.Ns X.env.locals m) (hok : HOk X.prog X.w H' h') (hg : AllBare g') :
    Inv X pins σ H' { s with heap := h', gens := g', drawn := d', toks := t' } := by
  have neL : ∀ b o, X.s_0.heap.get? b = some o → b ≠ X.env.locals := fun b o e => Nat.ne_of_lt (Nat.lt_of_lt_of_le (Heap.lt_size e) I.ok.above)
  have neC : ∀ b o, X.s_0.heap.get? b = some o → b ∉ X.ex → b ∉ ch := fun b o e hx hb => by
    rcases (hch b hb).1 with z | z
    · exact hx z
    · exact absurd (Nat.lt_of_lt_of_le (Heap.lt_size e) z) (Nat.lt_irrefl _)
  have cellK : ∀ x c, X.env.cells.lookup x = some c → ∀ v, s.heap.IsCell c v → h'.IsCell c v := fun x c e v ⟨o, ho, hd⟩ => by
    have nch : c ∉ ch := fun z => (hch c z).2.2.1 x c e rfl
    by_cases hc : c ∈ X.fs
    · obtain ⟨sl, q⟩ := slot c o (I.cne x c e) hc nch ho (I.freeC x c e)
      exact ⟨_, q, hd⟩
    · exact ⟨o, keep c o (I.cne x c e) hc nch ho (I.freeC x c e), hd⟩
  refine ⟨I.ok, I.os, hg, ⟨fun b o e n hb hx => ?_, fun b o e n hb hx => ?_, fun b o e n hx => ?_, fun b o e hx => ?_, fun b xs e => tups b xs (I.base.tups b xs e), fun b o xs e => frzs b o xs (I.base.frzs b o xs e), fun b ps e => ?_⟩, ?_, fun x c e => ?_, ?_, fun x c e => ?_, fun p hp => ?_, hok, I.len⟩
  · exact keep b o (neL b o e) hb (neC b o e hx) (I.base.keep b o e n hb hx) (I.base.free b o e n hx)
  · obtain ⟨sl, e1⟩ := I.base.slot b o e n hb hx
    obtain ⟨sl', e2⟩ := slot b _ (neL b o e) hb (neC b o e hx) e1 (I.base.free b o e n hx)
    exact ⟨sl', e2⟩
  · obtain ⟨o', e1⟩ := I.base.there b o e hx
    exact free b o' (neC b o e hx) e1 (I.base.free b o e n hx)
  · obtain ⟨o', e1⟩ := I.base.there b o e hx
    exact there b o' (neC b o e hx) e1
  · obtain ⟨m1, e1⟩ := I.base.tbls b ps e
    obtain ⟨m2, e2⟩ := tbls b _ e1
    exact ⟨m1 ++ m2, by rw [e2, Array.append_assoc]⟩
  · obtain ⟨m, hn, hl⟩ := I.loc
    refine ⟨m, ns m hn, fun i x v e1 e2 e3 => ?_⟩
    obtain ⟨u, r, l⟩ := hl i x v e1 e2 e3
    refine ⟨u, r, ?_⟩
    rcases l with l | ⟨k, c, e, z⟩
    · exact .inl l
    · exact .inr ⟨k, c, e, cellK x c e _ z⟩
  · obtain ⟨v, z⟩ := I.cell x c e
    exact ⟨v, cellK x c e v z⟩
  · obtain ⟨m, ⟨o, _, _, ho, _⟩, _⟩ := I.loc
    exact free _ o (fun z => (hch _ z).2.1 rfl) ho I.free
  · obtain ⟨v, o, ho, hd⟩ := I.cell x c e
    exact free c o (fun z => (hch c z).2.2.1 x c e rfl) ho (I.freeC x c e)
  · obtain ⟨e, n, ne, nf, d⟩ := I.pin p hp
    have nch : p.1 ∉ ch := fun z => (hch p.1 z).2.2.2 p hp rfl
    exact ⟨keep p.1 p.2 ne nf nch e n, free p.1 p.2 nch e n, ne, nf, d⟩
/-- .. where the frame's own object is kept too -/
theorem Inv.un {t' : Nat} (I : Inv X pins σ H s) (u : Un X.fs [] H H' s.heap h') (hok : HOk X.prog X.w H' h') : Inv X pins σ H' { s with heap := h', toks := t' } := by
  obtain ⟨m, ⟨o, es, ep, ho, r⟩, _⟩ := id I.loc
  obtain ⟨sl, hL⟩ := u.any ho I.free (by simp)
  exact I.step (g' := s.gens) (d' := s.drawn) (ch := []) (fun _ z => nomatch z) (fun b o _ hb _ e n => u.keep b o e n hb (by simp)) (fun b o _ hb _ e n => u.slot b o e n hb (by simp)) (fun b o _ e n => u.free b o e n (by simp)) (fun b o _ e => u.there b o e (by simp)) u.tups u.frzs u.tbls (fun m' hm => by
    obtain ⟨o', es', ep', ho', r'⟩ := hm
    rw [ho] at ho'; cases ho'
    exact ⟨_, es', ep', hL, r'⟩) hok I.bare
/-- behind a call (or a comprehension's block): the slots of this frame may have changed too, the records at ch may have turned -/
theorem Inv.call {g' : Array GenState} {t' : Nat} {d' : Drawn} {ch : List Addr} (I : Inv X pins σ H s) (u : Un (frs X.stack) ch H H' s.heap h') (hok : HOk X.prog X.w H' h') (hg : AllBare g')
    (hch : ∀ b ∈ ch, (b ∈ X.ex ∨ X.s_0.heap.objs.size ≤ b) ∧ b ≠ X.env.locals ∧ (∀ x c, X.env.cells.lookup x = some c → c ≠ b) ∧ ∀ p ∈ X.pn ++ pins, p.1 ≠ b) :
    Inv X pins σ H' { s with heap := h', gens := g', drawn := d', toks := t' } := by
  obtain ⟨m, ⟨o, es, ep, ho, r⟩, _⟩ := id I.loc
  obtain ⟨sl, hL⟩ := u.any ho I.free fun z => (hch _ z).2.1 rfl
  exact I.step (ch := ch) hch (fun b o hL hb hc e n => u.keep b o e n (fun z => (List.mem_cons.mp (I.stkSub b z)).elim hL hb) hc) (fun b o _ _ hc e n => u.any e n hc) (fun b o hc e n => u.free b o e n hc) (fun b o hc e => u.there b o e hc) u.tups u.frzs u.tbls (fun m' hm => by
    obtain ⟨o', es', ep', ho', r'⟩ := hm
    rw [ho] at ho'; cases ho'
    exact ⟨_, es', ep', hL, r'⟩) hok hg
/-- an untracked record of ours (an iterator) has turned -/
theorem Inv.turned {t' : Nat} {it : Addr} (I : Inv X pins σ H s) (k : ∀ b o, b ≠ it → s.heap.get? b = some o → h'.get? b = some o) (hn : H it = none) (hL : it ≠ X.env.locals)
    (h1 : it ∈ X.ex ∨ X.s_0.heap.objs.size ≤ it) (h2 : ∀ x c, X.env.cells.lookup x = some c → c ≠ it) (h3 : ∀ p ∈ X.pn ++ pins, p.1 ≠ it) : Inv X pins σ H { s with heap := h', toks := t' } := by
  have nit : ∀ b u, H b = some u → b ≠ it := fun b u e z => by rw [z, hn] at e; cases e
  refine I.step (g' := s.gens) (d' := s.drawn) (ch := [it]) (fun b hb => ?_) (fun b o _ _ hc e _ => k b o (fun z => hc (by simp [z])) e) (fun b o _ _ hc e _ => ⟨o.slots, k b o (fun z => hc (by simp [z])) e⟩) (fun _ _ _ _ n => n)
    (fun b o hc e => ⟨o, k b o (fun z => hc (by simp [z])) e⟩) (fun _ _ e => e) (fun _ _ _ e => e) (fun b ps e => ⟨#[], by rw [e]; simp⟩) (fun m hm => ?_) (fun b u e => ?_) I.bare
  · have e : b = it := by simpa using hb
    subst e
    exact ⟨h1, hL, h2, h3⟩
  · obtain ⟨o, es, ep, ho, r⟩ := hm
    exact ⟨o, es, ep, k _ o (Ne.symm hL) ho, r⟩
  · refine (I.hok b u e).stay (fun c v hc q => k c v ?_ q) (fun _ q => q) fun _ _ q => q
    rcases hc with z | z
    · rw [z]; exact nit b u e
    · exact nit c _ z
theorem Inv.tok (I : Inv X pins σ H s) (t : Nat) : Inv X pins σ H { s with toks := t } := I.un (h' := s.heap) (t' := t) Un.refl I.hok
/-- all objects kept -/
theorem Inv.kept {t' : Nat} (I : Inv X pins σ H s) (k : ∀ b u, s.heap.get? b = some u → h'.get? b = some u) : Inv X pins σ H { s with heap := h', toks := t' } := I.un (Un.kept k) (I.hok.kept k)
/-- a new object laid and tracked -/
theorem Inv.laid {a : Addr} {o : HO} {t' : Nat} (I : Inv X pins σ H s) (k : ∀ b u, s.heap.get? b = some u → h'.get? b = some u) (hp : s.heap.objs.size ≤ a) (new : ObjOk X.prog X.w (upd H a o) h' a o) :
    Inv X pins σ (upd H a o) { s with heap := h', toks := t' } := I.un (Un.laid k hp (I.hok.fresh hp)) (I.hok.laid k hp new)
/-- an object written -/
theorem Inv.write {x e : Addr} {o : HO} {t' : Nat} (I : Inv X pins σ H s) (mu : Mut (H x)) (he : e = x ∨ H e = some (.own x)) (k : ∀ b u, b ≠ e → s.heap.get? b = some u → h'.get? b = some u) (heo : ∃ u, h'.get? e = some u)
    (new : ObjOk X.prog X.w (upd H x o) h' x o) : Inv X pins σ (upd H x o) { s with heap := h', toks := t' } := I.un (Un.write mu he k heo) (I.hok.write mu he k heo new)
/-- forgetting slots, pins -/
theorem Inv.weak {σ' : List (Option V)} (I : Inv X pins σ H s) (hl : σ'.length = σ.length) (w : ∀ (i : Nat) v, σ'[i]? = some (some v) → σ[i]? = some (some v)) : Inv X pins σ' H s :=
  ⟨I.ok, I.os, I.bare, I.base, let ⟨m, hn, hl'⟩ := I.loc; ⟨m, hn, fun i x v e1 e2 e3 => hl' i x v e1 (w i v e2) e3⟩, I.cell, I.free, I.freeC, I.pin, I.hok, hl.trans I.len⟩
theorem Inv.pins_of {pins' : List (Addr × Obj)} (I : Inv X pins σ H s) (h : ∀ p ∈ pins', s.heap.get? p.1 = some p.2 ∧ H p.1 = none ∧ p.1 ≠ X.env.locals ∧ p.1 ∉ X.fs ∧ ∀ v, p.2.data ≠ .cell v) : Inv X pins' σ H s :=
  ⟨I.ok, I.os, I.bare, I.base, I.loc, I.cell, I.free, I.freeC, fun p hp => (List.mem_append.mp hp).elim (fun z => I.pin p (List.mem_append_left _ z)) (h p), I.hok, I.len⟩

theorem nodup_ix {N : List Str} (hN : N.Nodup) {i j : Nat} {x : Str} (a : N[i]? = some x) (b : N[j]? = some x) : i = j := by
  obtain ⟨h1, e1⟩ := List.getElem?_eq_some_iff.mp a
  obtain ⟨h2, e2⟩ := List.getElem?_eq_some_iff.mp b
  exact (List.getElem_inj hN).mp (e1.trans e2.symm)

/-- a name is stored; what changed -/
theorem store_ok2 {M : Model} {A : Around} {E : Value → Shared → Prop} {i : Nat} {x : Str} {v : V} {u : Value} {Q : Unit → Shared → Prop} (I : Inv X pins σ H s) (hN : X.N.Nodup) (hi : X.N[i]? = some x) (hx : Loc X.env.scope x) (r : RelV v u)
    (h : ∀ s', Inv X pins (σ.set i (some v)) H s' → (∃ a, Heap.SameBut a s.heap s'.heap ∧ (a = X.env.locals ∨ X.env.cells.lookup x = some a)) → Q () s') (hf : X.fn x = true ∨ X.env.scope.names.lookup x = some .local := by first | exact .inl rfl | exact .inr rfl | assumption) : wpAny M A (storeName X.env x u) Q E s := by
  obtain ⟨m, hn, hl⟩ := id I.loc
  have hcls : (X.env.scope.kind == .class || (X.env.scope.kind == .module && X.env.locals != X.env.globals)) = false := by rw [I.ok.kind]; rfl
  have hiσ : i < σ.length := by rw [I.len]; exact (List.getElem?_eq_some_iff.mp hi).1
  have cne := I.cne
  have tracked : ∀ {a : Addr} {h' : Heap}, (∃ o, s.heap.get? a = some o ∧ H a = none) → Heap.SameBut a s.heap h' → HOk X.prog X.w H h' := fun {a h'} ha hs b ob e => by
    obtain ⟨_, _, hfree⟩ := ha
    refine (I.hok b ob e).stay (fun c w' hc q => (hs.2 c ?_).trans q) (fun _ q => q) fun _ _ q => q
    rintro rfl
    rcases hc with rfl | hc
    · rw [hfree] at e; cases e
    · rw [hfree] at hc; cases hc
  rcases hx with hk | hk
  · refine wpAny_storeName_local hk hn (fun h' hn' hs => ?_) hcls
    obtain ⟨oL, _, _, hoL, _⟩ := id hn
    refine h _ ⟨I.ok, I.os, I.bare, ⟨fun b o e n hb hx => ?_, fun b o e n hb hx => ?_, I.base.free, fun b o e hx => ?_, I.base.tups, I.base.frzs, I.base.tbls⟩, ⟨_, hn', fun j y v' e1 e2 e3 => ?_⟩, fun y c e => ?_, I.free, I.freeC, fun p hp => ?_, tracked ⟨oL, hoL, I.free⟩ hs, by simpa using I.len⟩ ⟨_, hs, .inl rfl⟩
    · exact (hs.2 b (Nat.ne_of_lt (Nat.lt_of_lt_of_le (Heap.lt_size e) I.ok.above))).trans (I.base.keep b o e n hb hx)
    · obtain ⟨sl, e1⟩ := I.base.slot b o e n hb hx
      exact ⟨sl, (hs.2 b (Nat.ne_of_lt (Nat.lt_of_lt_of_le (Heap.lt_size e) I.ok.above))).trans e1⟩
    · obtain ⟨o', e1⟩ := I.base.there b o e hx
      exact ⟨o', (hs.2 b (Nat.ne_of_lt (Nat.lt_of_lt_of_le (Heap.lt_size e) I.ok.above))).trans e1⟩
    · by_cases hj : j = i
      · subst hj
        rw [hi] at e1; cases e1
        rw [List.getElem?_set_self hiσ] at e2
        cases e2
        exact ⟨u, r, .inl ⟨hk, by simp⟩⟩
      · rw [List.getElem?_set_ne (Ne.symm hj)] at e2
        obtain ⟨u', r', q⟩ := hl j y v' e1 e2 e3
        refine ⟨u', r', ?_⟩
        rcases q with ⟨k, e⟩ | ⟨k, c, e, z⟩
        · refine .inl ⟨k, ?_⟩
          have : y ≠ x := fun e => hj (nodup_ix hN e1 (e ▸ hi))
          simp [this, e]
        · exact .inr ⟨k, c, e, z.sameBut hs (cne y c e)⟩
    · obtain ⟨w', z⟩ := I.cell y c e
      exact ⟨w', z.sameBut hs (cne y c e)⟩
    · obtain ⟨e, n, ne, nf, d⟩ := I.pin p hp
      exact ⟨(hs.2 p.1 ne).trans e, n, ne, nf, d⟩
  · have hfn : X.fn x = true := by
      rcases hf with z | z
      · exact z
      · rw [z] at hk; cases hk
    obtain ⟨c, hc⟩ := I.ok.has x (.inl hk)
    obtain ⟨w', z⟩ := I.cell x c hc
    refine wpAny_storeName_cell I.ok.kind hk hc z (fun h' hc' hs => ?_)
    obtain ⟨oc, hoc, hocd⟩ := id z
    refine h { s with heap := h' } ⟨I.ok, I.os, I.bare, ⟨fun b o e n hb hx => ?_, fun b o e n hb hx => ?_, I.base.free, fun b o e hx => ?_, I.base.tups, I.base.frzs, I.base.tbls⟩, ⟨m, hn.sameBut hs (Ne.symm (cne x c hc)), fun j y v' e1 e2 e3 => ?_⟩, fun y c' e => ?_, I.free, I.freeC, fun p hp => ?_, tracked ⟨oc, hoc, I.freeC x c hc⟩ hs, by simpa using I.len⟩ ⟨c, hs, .inr hc⟩
    · exact (hs.2 b (Nat.ne_of_lt (Nat.lt_of_lt_of_le (Heap.lt_size e) (I.ok.cab x c hfn hc)))).trans (I.base.keep b o e n hb hx)
    · obtain ⟨sl, e1⟩ := I.base.slot b o e n hb hx
      exact ⟨sl, (hs.2 b (Nat.ne_of_lt (Nat.lt_of_lt_of_le (Heap.lt_size e) (I.ok.cab x c hfn hc)))).trans e1⟩
    · obtain ⟨o', e1⟩ := I.base.there b o e hx
      exact ⟨o', (hs.2 b (Nat.ne_of_lt (Nat.lt_of_lt_of_le (Heap.lt_size e) (I.ok.cab x c hfn hc)))).trans e1⟩
    · by_cases hj : j = i
      · subst hj
        rw [hi] at e1; cases e1
        rw [List.getElem?_set_self hiσ] at e2
        cases e2
        exact ⟨u, r, .inr ⟨.inl hk, c, hc, hc'⟩⟩
      · rw [List.getElem?_set_ne (Ne.symm hj)] at e2
        obtain ⟨u', r', q⟩ := hl j y v' e1 e2 e3
        refine ⟨u', r', ?_⟩
        rcases q with q | ⟨k, c', e, z'⟩
        · exact .inl q
        · refine .inr ⟨k, c', e, z'.sameBut hs ?_⟩
          rintro rfl
          exact hj (nodup_ix hN e1 (I.ok.inj _ _ _ e hc ▸ hi))
    · by_cases hcc : c' = c
      · subst hcc; exact ⟨_, hc'⟩
      · obtain ⟨w2, z2⟩ := I.cell y c' e
        exact ⟨w2, z2.sameBut hs hcc⟩
    · obtain ⟨e, n, ne, nf, d⟩ := I.pin p hp
      refine ⟨(hs.2 p.1 ?_).trans e, n, ne, nf, d⟩
      intro q
      rw [q, hoc] at e
      have q' : oc = p.2 := Option.some.inj e
      exact d w' (by rw [← q']; exact hocd)
theorem store_ok {M : Model} {A : Around} {E : Value → Shared → Prop} {i : Nat} {x : Str} {v : V} {u : Value} {Q : Unit → Shared → Prop} (I : Inv X pins σ H s) (hN : X.N.Nodup) (hi : X.N[i]? = some x) (hx : Loc X.env.scope x) (r : RelV v u)
    (h : ∀ s', Inv X pins (σ.set i (some v)) H s' → Q () s') (hf : X.fn x = true ∨ X.env.scope.names.lookup x = some .local := by first | exact .inl rfl | exact .inr rfl | assumption) : wpAny M A (storeName X.env x u) Q E s :=
  store_ok2 I hN hi hx r (fun s' I' _ => h s' I') hf
/-- behind a call or a block, the state as it is -/
theorem Inv.call' {s' : Shared} {ch : List Addr} (I : Inv X pins σ H s) (ho : s'.os = s.os) (u : Un (frs X.stack) ch H H' s.heap s'.heap) (hok : HOk X.prog X.w H' s'.heap) (hg : AllBare s'.gens)
    (hch : ∀ b ∈ ch, (b ∈ X.ex ∨ X.s_0.heap.objs.size ≤ b) ∧ b ≠ X.env.locals ∧ (∀ x c, X.env.cells.lookup x = some c → c ≠ b) ∧ ∀ p ∈ X.pn ++ pins, p.1 ≠ b) : Inv X pins σ H' s' := by
  obtain ⟨h', g', d', t', o'⟩ := s'
  have e : o' = s.os := ho
  subst e
  exact I.call (g' := g') (t' := t') (d' := d') u hok hg hch
end

/-! ### the judgements -/
/-- an exception: its class, its own dict's address (where it has one), the abstract heap behind it -/
abbrev XK := Value → Option Addr → Hp → Prop
abbrev St := List (Option V)
abbrev VK := V → Hp → Prop
/-- an expression's reading; a test's; an argument list's -/
abbrev TE := St → Hp → VK → Prop
abbrev TT := St → Hp → (Bool → Hp → Prop) → Prop
abbrev TA := St → Hp → (List V → Hp → Prop) → Prop
/-- what is wanted behind a statement -/
structure Ends where
  nx : St → Hp → Prop
  rt : VK
  bk : St → Hp → Prop := fun _ _ => False
  ct : St → Hp → Prop := fun _ _ => False
abbrev TS := Ends → St → Hp → Prop

def EP (X : Cx) (pins : List (Addr × Obj)) (σ : St) (Q : VK) (u : Value) (s' : Shared) : Prop := ∃ v H', Inv X pins σ H' s' ∧ RelV v u ∧ Q v H'
def TP (X : Cx) (pins : List (Addr × Obj)) (σ : St) (Q : Bool → Hp → Prop) (b : Bool) (s' : Shared) : Prop := ∃ H', Inv X pins σ H' s' ∧ Q b H'
def AP (X : Cx) (pins : List (Addr × Obj)) (σ : St) (Q : List V → Hp → Prop) (us : List Value) (s' : Shared) : Prop := ∃ vs H', Inv X pins σ H' s' ∧ Vals vs us ∧ Q vs H'
def SP (X : Cx) (pins : List (Addr × Obj)) (D : Ends) (f : Flow) (s' : Shared) : Prop :=
  match f with
  | .next => ∃ σ' H', Inv X pins σ' H' s' ∧ D.nx σ' H'
  | .brk => ∃ σ' H', Inv X pins σ' H' s' ∧ D.bk σ' H'
  | .cont => ∃ σ' H', Inv X pins σ' H' s' ∧ D.ct σ' H'
  | .ret u => ∃ v σ' H', Inv X pins σ' H' s' ∧ RelV v u ∧ D.rt v H'

def PE (X : Cx) (e : Expr) (t : TE) : Prop :=
  ∀ (pins : List (Addr × Obj)) (s : Shared) (σ : St) (H : Hp) (Q : VK), Inv X pins σ H s → t σ H Q → wpAny (model X.prog X.w) X.A (eval e X.env) (EP X pins σ Q) X.xe s
def PT (X : Cx) (e : Expr) (t : TT) : Prop :=
  ∀ (pins : List (Addr × Obj)) (s : Shared) (σ : St) (H : Hp) (Q : Bool → Hp → Prop), Inv X pins σ H s → t σ H Q → wpAny (model X.prog X.w) X.A (isTrue e X.env (eval e X.env)) (TP X pins σ Q) X.xe s
/-- a test whatever its 'whole' is (and, or) -/
def PW (X : Cx) (e : Expr) (t : TT) : Prop :=
  ∀ (whole : Sem Value) (pins : List (Addr × Obj)) (s : Shared) (σ : St) (H : Hp) (Q : Bool → Hp → Prop), Inv X pins σ H s → t σ H Q → wpAny (model X.prog X.w) X.A (isTrue e X.env whole) (TP X pins σ Q) X.xe s
theorem PW.pt {X : Cx} {e : Expr} {t : TT} (h : PW X e t) : PT X e t := h _
/-- an argument list (no star), from the left -/
def PA (X : Cx) (es : List Expr) (t : TA) : Prop :=
  ∀ (pos : Pos) (pins : List (Addr × Obj)) (s : Shared) (σ : St) (H : Hp) (Q : List V → Hp → Prop), Inv X pins σ H s → t σ H Q → wpAny (model X.prog X.w) X.A (spliced (backTo pos (starEach es X.env))) (AP X pins σ Q) X.xe s
def PS (X : Cx) (st : Stmt) (t : TS) : Prop :=
  ∀ (pins : List (Addr × Obj)) (s : Shared) (σ : St) (H : Hp) (D : Ends), Inv X pins σ H s → t D σ H → wpAny (model X.prog X.w) X.A (exec st X.env) (SP X pins D) X.xe s
def PSs (X : Cx) (st : List Stmt) (t : TS) : Prop :=
  ∀ (pins : List (Addr × Obj)) (s : Shared) (σ : St) (H : Hp) (D : Ends), Inv X pins σ H s → t D σ H → wpAny (model X.prog X.w) X.A (execs st X.env) (SP X pins D) X.xe s
/-- weaken the end -/
theorem thn {α : Type} {t : Sem α} {Q Q' : α → Shared → Prop} {M : Model} {A : Around} {E : Value → Shared → Prop} {s : Shared} (h : wpAny M A t Q E s) (hQ : ∀ a s, Q a s → Q' a s) : wpAny M A t Q' E s := wpAny_mono h hQ fun _ _ x => x
end L2

namespace L2
open PySem PySem.Spec PyProof.Rows
section
variable {X : Cx}

/-! ### names and constants -/
def tVar (i : Nat) : TE := fun σ H Q => ∃ v, σ[i]? = some (some v) ∧ Q v H
def tC (v : V) : TE := fun _ H Q => Q v H
theorem pe_var {i : Nat} {x : Str} {pos : Pos} (hN : X.N[i]? = some x) (hv : Vis X.env.scope x) (hd : (x == ("__debug__" : Str)) = false := by decide) (hcd : (x == ("__classdict__" : Str)) = false := by decide) : PE X (.Name x pos) (tVar i) := by
  intro pins s σ H Q I h
  obtain ⟨v, e, h⟩ := h
  obtain ⟨m, hn, hl⟩ := I.loc
  obtain ⟨u, r, l⟩ := hl i x v hN e hv
  have fin : EP X pins σ Q u s := ⟨v, H, I, r, h⟩
  rcases l with ⟨hk, hm⟩ | ⟨hk, c, hc, hcell⟩
  · exact wpAny_Name (wpAny_loadName_local I.ok.kind hk hn hm fin) hd
  · rcases hk with hk | hk
    · exact wpAny_Name (wpAny_loadName_cell I.ok.kind hk hc hcell fin) hd
    · exact wpAny_Name (wpAny_loadName_free I.ok.kind hk hc hcell fin hcd) hd
theorem pe_int {i j pos} : PE X (.Constant (.int i) j pos) (tC (.int i)) := fun _ _ _ H _ I h => wpAny_Constant_int ⟨.int i, H, I.tok _, ⟨_, rfl⟩, h⟩
theorem pe_bl {b j pos} : PE X (.Constant (.bool b) j pos) (tC (.bl b)) := fun _ _ _ H _ I h => Constant_bool ⟨.bl b, H, I, rfl, h⟩
theorem pe_non {j pos} : PE X (.Constant .none j pos) (tC .non) := fun _ _ _ H _ I h => Constant_none ⟨.non, H, I, rfl, h⟩
/-- a global name of the def -/
def Gl (X : Cx) (x : Str) : Prop := X.env.kindOf x = some .globalImplicit
theorem ld_glob {E : Value → Shared → Prop} {pins : List (Addr × Obj)} {s : Shared} {σ : St} {H : Hp} {x : Str} {u : Value} {pos : Pos} {Q : Value → Shared → Prop} (I : Inv X pins σ H s) (hg : Gl X x) (hm : X.mg x = some u) (h : Q u s)
    (hd : (x == ("__debug__" : Str)) = false := by decide) : wpAny (model X.prog X.w) X.A (eval (.Name x pos) X.env) Q E s :=
  Calls.Name_function_global I.ok.kind hg (Calls.loadGlobal_global (by rw [I.ok.glob]; exact I.mod.glob.keeps I.bk) hm h) hd
theorem ld_blt {E : Value → Shared → Prop} {pins : List (Addr × Obj)} {s : Shared} {σ : St} {H : Hp} {x : Str} {u : Value} {pos : Pos} {Q : Value → Shared → Prop} (I : Inv X pins σ H s) (hg : Gl X x) (hm : X.mg x = none) (hv : bootBuiltins x = some u) (h : Q u s)
    (hn : x ≠ "__name__" := by decide) (hd : (x == ("__debug__" : Str)) = false := by decide) : wpAny (model X.prog X.w) X.A (eval (.Name x pos) X.env) Q E s := by
  obtain ⟨mb, h1, h2⟩ := I.mod.blt
  exact Calls.Name_function_global I.ok.kind hg (Calls.loadGlobal_builtin (by rw [I.ok.glob]; exact I.mod.glob.keeps I.bk) hm (by rw [I.ok.blt]; exact h1.keeps I.bk) ((h2 x hn).trans hv) h) hd
/-- a module's constant, a class, a function, as a value -/
theorem pe_glob {x : Str} {v : V} {u : Value} {pos : Pos} (hg : Gl X x) (hm : X.mg x = some u) (r : RelV v u) (hd : (x == ("__debug__" : Str)) = false := by decide) : PE X (.Name x pos) (tC v) :=
  fun _ _ _ H _ I h => ld_glob I hg hm ⟨v, H, I, r, h⟩ hd
/-! ### arithmetic -/
variable {a b : Expr} {ta tb : TE} {pos : Pos}
/-! ### comparisons -/
def PC (X : Cx) (op : CmpOp) (a b : Expr) (t : TE) : Prop :=
  ∀ (pins : List (Addr × Obj)) (s : Shared) (σ : St) (H : Hp) (Q : VK), Inv X pins σ H s → t σ H Q →
    wpAny (model X.prog X.w) X.A (eval a X.env) (fun v s₁ => wpAny (model X.prog X.w) X.A (eval b X.env) (fun u s₂ => wpAny (model X.prog X.w) X.A (compareOp op v u) (EP X pins σ Q) X.xe s₂) X.xe s₁) X.xe s
theorem nobehind (b : Expr) {op : CmpOp} (h : op ≠ .In) (h2 : op ≠ .NotIn) : behindInMarks op b = false := by
  have e1 : (op == CmpOp.In) = false := by cases op <;> first | rfl | exact absurd rfl h
  have e2 : (op == CmpOp.NotIn) = false := by cases op <;> first | rfl | exact absurd rfl h2
  cases b <;> simp [behindInMarks, e1, e2]
/-- is None -/
def tIsN (ta : TE) : TE := fun σ H Q => ta σ H fun x H1 => Q (.bl (decide (x = .non))) H1
def tNotN (ta : TE) : TE := fun σ H Q => ta σ H fun x H1 => Q (.bl (!decide (x = .non))) H1
theorem RelV.none_iff {x : V} {v : Value} (r : RelV x v) : (v == Value.none) = decide (x = .non) := by
  cases x with
  | non => cases r; rfl
  | bl _ => cases r; rfl
  | int _ => obtain ⟨t, rfl⟩ := r; rfl
  | str _ => obtain ⟨t, rfl⟩ := r; rfl
  | byt _ => obtain ⟨t, rfl⟩ := r; rfl
  | flt _ => obtain ⟨t, rfl⟩ := r; rfl
  | ref _ => cases r; rfl
  | ty _ => cases r; rfl
theorem pc_isN {j pos'} (ha : PE X a ta) : PC X .Is a (.Constant .none j pos') (tIsN ta) := by
  intro pins s σ H Q I h
  refine thn (ha pins s σ H _ I h) fun v s1 ⟨x, H1, I1, r1, q1⟩ => ?_
  exact Constant_none (is_none_gen ⟨.bl _, H1, I1, by rw [r1.none_iff]; rfl, q1⟩)
theorem pc_notN {j pos'} (ha : PE X a ta) : PC X .IsNot a (.Constant .none j pos') (tNotN ta) := by
  intro pins s σ H Q I h
  refine thn (ha pins s σ H _ I h) fun v s1 ⟨x, H1, I1, r1, q1⟩ => ?_
  exact Constant_none (isnot_none_gen ⟨.bl _, H1, I1, by rw [r1.none_iff]; rfl, q1⟩)
/-- a comparison as a value, as a test -/
def tB (t : TE) : TT := fun σ H Q => t σ H fun x H1 => ∃ c, x = .bl c ∧ Q c H1
theorem pt_cmp {op : CmpOp} {t : TE} (h : PC X op a b t) (h1 : behindInMarks op b = false := by first | exact nobehind _ (by decide) (by decide) | rfl) : PT X (.Compare a [op] [b] pos) (tB t) := by
  intro pins s σ H Q I hw
  refine wpAny_isTrue_Compare1 (thn (h pins s σ H _ I hw) fun v s1 h1 => thn h1 fun u s2 h2 => thn h2 fun c s3 ⟨x, H1, I1, r1, q1⟩ => ?_) h1
  obtain ⟨d, rfl, q⟩ := q1
  cases r1
  exact wpAny_truthy_bool ⟨H1, I1, q⟩
/-- an expression whose value is a bool, as a test -/
theorem pt_val {e : Expr} {t : TE} (h : PE X e t) (he : ∀ whole, isTrue e X.env whole = (do let v ← whole; standAt e.pos; holding [v] (truthy v)) := by intro _; rfl) : PT X e (tB t) := by
  intro pins s σ H Q I hw
  refine isTrue_plain (thn (h pins s σ H _ I hw) fun v s1 ⟨x, H1, I1, r1, q1⟩ => ?_) (he _)
  obtain ⟨d, rfl, q⟩ := q1
  cases r1
  exact wpAny_truthy_bool ⟨H1, I1, q⟩

/-! ### and, or, not -/
variable {tA tB' : TT} {rest : List Expr}
def tAnd (t u : TT) : TT := fun σ H Q => t σ H fun c H1 => if c = true then u σ H1 Q else Q false H1
def tOr (t u : TT) : TT := fun σ H Q => t σ H fun c H1 => if c = true then Q true H1 else u σ H1 Q
def tNot (t : TT) : TT := fun σ H Q => t σ H fun c H1 => Q (!c) H1
theorem pw_and1 (ha : PT X a tA) : PW X (.BoolOp .And [a] pos) tA := by
  intro wh pins s σ H Q I h
  refine isTrue_and (thn (ha pins s σ H Q I h) fun c s1 e => ?_)
  cases c with
  | true => exact isTrue_and_nil e
  | false => exact e
theorem pw_or1 (ha : PT X a tA) : PW X (.BoolOp .Or [a] pos) tA := by
  intro wh pins s σ H Q I h
  refine isTrue_or (thn (ha pins s σ H Q I h) fun c s1 e => ?_)
  cases c with
  | false => exact isTrue_or_nil e
  | true => exact e
theorem pw_and (ha : PT X a tA) (hb : PW X (.BoolOp .And (b :: rest) pos) tB') : PW X (.BoolOp .And (a :: b :: rest) pos) (tAnd tA tB') := by
  intro wh pins s σ H Q I h
  refine isTrue_and (thn (ha pins s σ H _ I h) fun c s1 ⟨H1, I1, q1⟩ => ?_)
  cases c with
  | true => exact hb wh pins s1 σ H1 Q I1 q1
  | false => exact ⟨H1, I1, q1⟩
theorem pw_or (ha : PT X a tA) (hb : PW X (.BoolOp .Or (b :: rest) pos) tB') : PW X (.BoolOp .Or (a :: b :: rest) pos) (tOr tA tB') := by
  intro wh pins s σ H Q I h
  refine isTrue_or (thn (ha pins s σ H _ I h) fun c s1 ⟨H1, I1, q1⟩ => ?_)
  cases c with
  | true => exact ⟨H1, I1, q1⟩
  | false => exact hb wh pins s1 σ H1 Q I1 q1
theorem pt_not (ha : PT X a tA) : PT X (.UnaryOp .Not a pos) (tNot tA) := by
  intro pins s σ H Q I h
  exact isTrue_not (ha pins s σ H (fun c H1 => Q (!c) H1) I h)
end
end L2

namespace L2
open PySem PySem.Spec PyProof.Rows

/-! ### a list, a tuple that is read: tracked, frozen, or an object of the module -/
def SqL (K : PySem.W.Frag) (H : Hp) (a : Addr) (xs : List V) : Prop :=
  Rd H a (.lst xs) ∨
    ∃ (o : Obj) (its : Array Value) (n : Nat), K.lookup a = some o ∧ o.cls = .type "list" ∧ o.dict = none ∧ o.data = .seq its n ∧ its.size ≤ sizeLine ∧ Vals xs its.toList
def SqT (K : PySem.W.Frag) (H : Hp) (a : Addr) (xs : List V) : Prop :=
  Rd H a (.tup xs) ∨
    ∃ (o : Obj) (its : Array Value) (n : Nat), K.lookup a = some o ∧ o.cls = .type "tuple" ∧ o.data = .seq its n ∧ its.size ≤ sizeLine ∧ Vals xs its.toList
def absV : Value → Option V
  | .none => some .non
  | .bool b => some (.bl b)
  | .int i _ => some (.int i)
  | .str x _ => some (.str x)
  | .bytes b _ => some (.byt b)
  | .float b _ => some (.flt b)
  | .ref a => some (.ref a)
  | .type n => some (.ty n)
  | _ => none
theorem RelV.abs {x : V} {u : Value} (r : RelV x u) : absV u = some x := by
  cases x with
  | non => cases r; rfl
  | bl _ => cases r; rfl
  | int _ => obtain ⟨t, rfl⟩ := r; rfl
  | str _ => obtain ⟨t, rfl⟩ := r; rfl
  | byt _ => obtain ⟨t, rfl⟩ := r; rfl
  | flt _ => obtain ⟨t, rfl⟩ := r; rfl
  | ref _ => cases r; rfl
  | ty _ => cases r; rfl
theorem RelV.inj {x y : V} {u : Value} (r : RelV x u) (q : RelV y u) : x = y := Option.some.inj (r.abs.symm.trans q.abs)
theorem Vals.inj : ∀ {xs ys : List V} {us : List Value}, Vals xs us → Vals ys us → xs = ys
  | _, _, _, .nil, .nil => rfl
  | _, _, _, .cons r t, .cons r' t' => by rw [r.inj r', Vals.inj t t']
section
variable {X : Cx} {pins : List (Addr × Obj)} {σ : St} {H : Hp} {s : Shared} {a : Addr} {xs ys : List V}
theorem SqL.of {K : PySem.W.Frag} (h : H a = some (.lst xs)) : SqL K H a xs := .inl (.inl h)
theorem Inv.list (I : Inv X pins σ H s) (h : SqL X.K H a xs) : ∃ its : List Value, Vals xs its ∧ PlainL s.heap a its.toArray ∧ xs.length ≤ sizeLine := by
  rcases h with h | ⟨o, its, n, hk, hc, hd, hs, hz, r⟩
  · obtain ⟨z, its, n, r, e⟩ := h.ok I.hok
    exact ⟨its, r, ⟨_, n, e, rfl, rfl, rfl⟩, z⟩
  · refine ⟨its.toList, r, ⟨o, n, I.kIn a o hk, hc, hd, by simpa using hs⟩, ?_⟩
    have e := r.length
    simp only [Array.length_toList] at e
    omega
theorem Inv.tuple (I : Inv X pins σ H s) (h : SqT X.K H a xs) : ∃ its : List Value, Vals xs its ∧ IsTup s.heap a its.toArray ∧ xs.length ≤ sizeLine := by
  rcases h with h | ⟨o, its, n, hk, hc, hs, hz, r⟩
  · obtain ⟨z, its, r, p⟩ := h.ok I.hok
    exact ⟨its, r, p, z⟩
  · refine ⟨its.toList, r, ⟨o, I.kIn a o hk, hc, n, by simpa using hs⟩, ?_⟩
    have e := r.length
    simp only [Array.length_toList] at e
    omega
theorem Inv.list_inj (I : Inv X pins σ H s) (h : SqL X.K H a xs) (h' : SqL X.K H a ys) : xs = ys := by
  obtain ⟨its, r, ⟨o, n, e, _, _, d⟩, _⟩ := I.list h
  obtain ⟨its', r', ⟨o', n', e', _, _, d'⟩, _⟩ := I.list h'
  rw [e] at e'; cases e'
  rw [d] at d'
  injection d' with d1 _
  have : its = its' := by simpa using congrArg Array.toList d1
  subst this
  exact r.inj r'
end

/-! ### another wish about exceptions -/
abbrev Cx.wish (X : Cx) (E : Value → Shared → Prop) : Cx := { X with xe := E }
/-- no exception leaves -/
abbrev Cx.nox (X : Cx) : Cx := X.wish fun _ _ => False
theorem Cx.Ok.wish {X : Cx} (ok : X.Ok) (E : Value → Shared → Prop) : (X.wish E).Ok :=
  ⟨ok.mod, ok.kind, ok.glob, ok.blt, ok.above, ok.inj, ok.has, ok.cab, ok.hd, ok.frames, ok.stk, ok.exf, ok.bs, ok.bsz, ok.noex, ok.exfs, ok.funs, ok.frf⟩
theorem Cx.Ok.unwish {X : Cx} {E : Value → Shared → Prop} (ok : (X.wish E).Ok) : X.Ok :=
  ⟨ok.mod, ok.kind, ok.glob, ok.blt, ok.above, ok.inj, ok.has, ok.cab, ok.hd, ok.frames, ok.stk, ok.exf, ok.bs, ok.bsz, ok.noex, ok.exfs, ok.funs, ok.frf⟩
section
variable {X : Cx} {pins : List (Addr × Obj)} {σ : St} {H : Hp} {s : Shared} {E : Value → Shared → Prop}
theorem Inv.wish (I : Inv X pins σ H s) (E : Value → Shared → Prop) : Inv (X.wish E) pins σ H s := ⟨I.ok.wish E, I.os, I.bare, I.base, I.loc, I.cell, I.free, I.freeC, I.pin, I.hok, I.len⟩
theorem Inv.unwish (I : Inv (X.wish E) pins σ H s) : Inv X pins σ H s := ⟨I.ok.unwish, I.os, I.bare, I.base, I.loc, I.cell, I.free, I.freeC, I.pin, I.hok, I.len⟩
theorem SP.unwish {D : Ends} {f : Flow} {s' : Shared} (h : SP (X.wish E) pins D f s') : SP X pins D f s' := by
  cases f with
  | next => obtain ⟨σ', H', I, q⟩ := h; exact ⟨σ', H', I.unwish, q⟩
  | brk => obtain ⟨σ', H', I, q⟩ := h; exact ⟨σ', H', I.unwish, q⟩
  | cont => obtain ⟨σ', H', I, q⟩ := h; exact ⟨σ', H', I.unwish, q⟩
  | ret u => obtain ⟨v, σ', H', I, r, q⟩ := h; exact ⟨v, σ', H', I.unwish, r, q⟩
theorem PSs.nox {st : List Stmt} {t : TS} (h : PSs X.nox st t) : PSs X st t := fun pins s σ H D I hw =>
  wpAny_mono (h pins s σ H D (I.wish _) hw) (fun _ _ q => q.unwish) fun _ _ z => False.elim z
end

/-! ### blocks and small statements -/
section
variable {X : Cx} {st : Stmt} {rest : List Stmt} {t u : TS} {e : Expr} {te : TE} {pos : Pos}
def tNext : TS := fun D σ H => D.nx σ H
def tSeq (t u : TS) : TS := fun D σ H => t { D with nx := u D } σ H
theorem pss_nil : PSs X [] tNext := fun _ _ σ H _ I h => wpAny_execs_nil ⟨σ, H, I, h⟩
theorem pss_cons (h1 : PS X st t) (h2 : PSs X rest u) : PSs X (st :: rest) (tSeq t u) := by
  intro pins s σ H D I h
  refine wpAny_execs_cons (thn (h1 pins s σ H { D with nx := u D } I h) fun f s1 q => ?_)
  cases f with
  | next =>
    obtain ⟨σ', H', I', q⟩ := q
    exact h2 pins s1 σ' H' D I' q
  | ret v => exact q
  | brk => exact q
  | cont => exact q
theorem pss_one (h1 : PS X st t) : PSs X [st] t := by
  intro pins s σ H D I h
  refine wpAny_execs_cons (thn (h1 pins s σ H D I h) fun f s1 q => ?_)
  cases f with
  | next => exact wpAny_execs_nil q
  | ret v => exact q
  | brk => exact q
  | cont => exact q
/-- in a def's body nothing is shown -/
theorem Inv.quiet {pins : List (Addr × Obj)} {σ : St} {H : Hp} {s : Shared} (I : Inv X pins σ H s) : interactive X.env = false := by simp [interactive, I.ok.kind]
/-- an expression whose value is dropped -/
def tDrop (te : TE) : TS := fun D σ H => te σ H fun _ H1 => D.nx σ H1
theorem ps_expr (he : PE X e te) (hs : swapsWith e none pos.line X.env = pure false := by rfl) : PS X (.Expr e pos) (tDrop te) := by
  intro pins s σ H D I h
  exact wpAny_Expr_any (thn (he pins s σ H _ I h) fun v s1 ⟨x, H1, I1, r1, q1⟩ => ⟨σ, H1, I1, q1⟩) I.quiet hs
def tRet (te : TE) : TS := fun D σ H => te σ H D.rt
theorem ps_ret (he : PE X e te) : PS X (.Return (some e) pos) (tRet te) := by
  intro pins s σ H D I h
  exact wpAny_Return_some (thn (he pins s σ H _ I h) fun v s1 ⟨x, H1, I1, r1, q1⟩ => ⟨x, σ, H1, I1, r1, q1⟩)
def tRetN : TS := fun D _ H => D.rt .non H
theorem ps_retN : PS X (.Return none pos) tRetN := fun _ _ σ H _ I h => wpAny_Return_none ⟨.non, σ, H, I, rfl, h⟩
def tIfS (c : TT) (t u : TS) : TS := fun D σ H => c σ H fun b H1 => if b = true then t D σ H1 else u D σ H1
theorem ps_if {c : Expr} {a b : List Stmt} {tc : TT} (hc : PT X c tc) (ha : PSs X a t) (hb : PSs X b u) : PS X (.If c a b pos) (tIfS tc t u) := by
  intro pins s σ H D I h
  refine wpAny_If (thn (hc pins s σ H _ I h) fun d s1 ⟨H1, I1, q1⟩ => ?_)
  cases d with
  | true => exact ha pins s1 σ H1 D I1 q1
  | false => exact hb pins s1 σ H1 D I1 q1
end

/-! ### targets -/
abbrev TG := V → St → Hp → (St → Hp → Prop) → Prop
def PG (X : Cx) (target : Expr) (t : TG) : Prop :=
  ∀ (pins : List (Addr × Obj)) (s : Shared) (σ : St) (H : Hp) (v : V) (u : Value) (Q : St → Hp → Prop), Inv X pins σ H s → RelV v u → t v σ H Q →
    wpAny (model X.prog X.w) X.A (assign target X.env u) (fun _ s' => ∃ σ' H', Inv X pins σ' H' s' ∧ Q σ' H') X.xe s
/-- o[i] = v, by values -/
abbrev TSet := V → V → V → Hp → (Hp → Prop) → Prop
def PSet (X : Cx) (t : TSet) : Prop :=
  ∀ (pins : List (Addr × Obj)) (s : Shared) (σ : St) (H : Hp) (o i v : V) (ov iv u : Value) (Q : Hp → Prop), Inv X pins σ H s → RelV o ov → RelV i iv → RelV v u → t o i v H Q →
    wpAny (model X.prog X.w) X.A (setItem ov iv u) (fun _ s' => ∃ H', Inv X pins σ H' s' ∧ Q H') X.xe s
/-- a op= b, by values -/
abbrev TIp := V → V → Hp → VK → Prop
def PIp (X : Cx) (op : Operator) (t : TIp) : Prop :=
  ∀ (pins : List (Addr × Obj)) (s : Shared) (σ : St) (H : Hp) (x y : V) (v u : Value) (Q : VK), Inv X pins σ H s → RelV x v → RelV y u → t x y H Q →
    wpAny (model X.prog X.w) X.A (inplaceOp op v u) (EP X pins σ Q) X.xe s
section
variable {X : Cx} {pos : Pos}
def gName (i : Nat) : TG := fun v σ H Q => Q (σ.set i (some v)) H
theorem pg_name {i : Nat} {x : Str} (hN : X.N.Nodup) (hi : X.N[i]? = some x) (hx : Loc X.env.scope x) (hf : X.fn x = true ∨ X.env.scope.names.lookup x = some .local := by first | exact .inl rfl | exact .inr rfl | assumption) : PG X (.Name x pos) (gName i) := by
  intro pins s σ H v u Q I r h
  exact wpAny_assign_Name (store_ok I hN hi hx r (fun s' I' => ⟨_, H, I', h⟩) hf)
/-- o[i] = .. -/
def gSub (to ti : TE) (t : TSet) : TG := fun v σ H Q => to σ H fun o H1 => ti σ H1 fun i H2 => t o i v H2 fun H3 => Q σ H3
theorem pg_sub {o i : Expr} {to ti : TE} {t : TSet} (ho : PE X o to) (hi : PE X i ti) (hs : PSet X t)
    (ha : ∀ v, assign (.Subscript o i pos) X.env v = (do
      let ov ← holding [v] (eval o X.env)
      let iv ← holding [v, ov] (eval i X.env)
      standAt pos
      holding [v, ov, iv] (setItem ov iv v)
      release [v, ov, iv] []) := by intro _; rfl) : PG X (.Subscript o i pos) (gSub to ti t) := by
  intro pins s σ H v u Q I r h
  rw [ha]
  refine wpAny_bind (wpAny_holding (thn (ho pins s σ H _ I h) fun ov s1 ⟨x, H1, I1, r1, q1⟩ => ?_))
  refine wpAny_bind (wpAny_holding (thn (hi pins s1 σ H1 _ I1 q1) fun iv s2 ⟨y, H2, I2, r2, q2⟩ => ?_))
  refine wpAny_bind (wpAny_standAt (wpAny_bind (wpAny_holding (thn (hs pins s2 σ H2 x y v ov iv u _ I2 r1 r2 r q2) fun _ s3 ⟨H3, I3, q3⟩ => ?_))))
  exact wpAny_release ⟨σ, H3, I3, q3⟩
/-- target = value -/
def tAsg (te : TE) (g : TG) : TS := fun D σ H => te σ H fun x H1 => g x σ H1 D.nx
theorem ps_asg {tg e : Expr} {te : TE} {g : TG} (he : PE X e te) (hg : PG X tg g) (hs : swapsWithSole [tg] e pos.line X.env = pure false := by rfl) (hw : swappedStores [tg] e X.env = pure none := by rfl)
    (h1 : (assignEach [tg] X.env).map (·.2) = [assign tg X.env] := by rfl) : PS X (.Assign [tg] e pos) (tAsg te g) := by
  intro pins s σ H D I h
  refine wpAny_Assign_stores (thn (he pins s σ H _ I h) fun v s1 ⟨x, H1, I1, r1, q1⟩ => ?_) hs hw
  rw [h1]
  exact thn (hg pins s1 σ H1 x v _ I1 r1 q1) fun _ s2 q => q
/-- name = value -/
theorem ps_set {i : Nat} {x : Str} {e : Expr} {te : TE} {pos' : Pos} (hN : X.N.Nodup) (hi : X.N[i]? = some x) (hx : Loc X.env.scope x) (he : PE X e te) (hs : swapsWith e (some (.Name x pos')) pos.line X.env = pure false := by rfl) (hf : X.fn x = true ∨ X.env.scope.names.lookup x = some .local := by first | exact .inl rfl | exact .inr rfl | assumption) :
    PS X (.Assign [.Name x pos'] e pos) (tAsg te (gName i)) := by
  intro pins s σ H D I h
  refine wpAny_Assign_Name (thn (he pins s σ H _ I h) fun v s1 ⟨y, H1, I1, r1, q1⟩ => ?_) hs
  exact store_ok I1 hN hi hx r1 (fun s2 I2 => ⟨_, H1, I2, q1⟩) hf
/-- name op= e -/
def tAug (i : Nat) (te : TE) (ti : TIp) : TS := fun D σ H => ∃ x, σ[i]? = some (some x) ∧ te σ H fun y H1 => ti x y H1 fun z H2 => D.nx (σ.set i (some z)) H2
theorem ps_aug {i : Nat} {x : Str} {e : Expr} {te : TE} {op : Operator} {ti : TIp} {pos' : Pos} (hN : X.N.Nodup) (hi : X.N[i]? = some x) (hx : Loc X.env.scope x) (he : PE X e te) (ho : PIp X op ti) (hf : X.fn x = true ∨ X.env.scope.names.lookup x = some .local := by first | exact .inl rfl | exact .inr rfl | assumption) :
    PS X (.AugAssign (.Name x pos') op e pos) (tAug i te ti) := by
  intro pins s σ H D I h
  obtain ⟨v, e1, h⟩ := h
  obtain ⟨m, hn, hl⟩ := I.loc
  have vis : Vis X.env.scope x := by rcases hx with k | k; exact .inl k; exact .inr (.inl k)
  obtain ⟨u, r, l⟩ := hl i x v hi e1 vis
  refine wpAny_AugAssign_Name ?_
  have go : wpAny (model X.prog X.w) X.A (eval e X.env) (fun w s₂ => wpAny (model X.prog X.w) X.A (inplaceOp op u w) (fun r s₃ => wpAny (model X.prog X.w) X.A (storeName X.env x r) (fun _ => SP X pins D .next) X.xe s₃) X.xe s₂) X.xe s := by
    refine thn (he pins s σ H _ I h) fun w s1 ⟨y, H1, I1, r1, q1⟩ => ?_
    refine thn (ho pins s1 σ H1 v y u w _ I1 r r1 q1) fun z s2 ⟨zv, H2, I2, r2, q2⟩ => ?_
    exact store_ok I2 hN hi hx r2 (fun s3 I3 => ⟨_, H2, I3, q2⟩) hf
  rcases l with ⟨hk, hm⟩ | ⟨hk, c, hc, hcell⟩
  · exact wpAny_loadName_local I.ok.kind hk hn hm go
  · rcases hk with hk | hk
    · exact wpAny_loadName_cell I.ok.kind hk hc hcell go
    · rcases hx with k | k
      · have : X.env.scope.names.lookup x = some .free := hk
        rw [k] at this; cases this
      · have : X.env.scope.names.lookup x = some .free := hk
        rw [k] at this; cases this
/-- ints -/
def ipI (f : Int → Int → Int) : TIp := fun x y H Q => ∃ i j, x = .int i ∧ y = .int j ∧ Q (.int (f i j)) H
theorem ip_add : PIp X .Add (ipI fun i j => i + j) := by
  intro pins s σ H x y v u Q I r1 r2 h
  obtain ⟨i, j, e1, e2, q⟩ := h
  subst e1; subst e2
  obtain ⟨t, rfl⟩ := r1
  obtain ⟨t', rfl⟩ := r2
  exact iadd_int ⟨.int _, H, I.tok _, ⟨_, rfl⟩, q⟩
end

/-! ### while -/
section
variable {X : Cx} {pos : Pos}
/-- the invariant W with its measure -/
def tWhile (c : TT) (tb : TS) : TS := fun D σ H => ∃ W : Nat → St → Hp → Prop, (∃ m, W m σ H) ∧ ∀ m σ H, W m σ H →
  c σ H fun b H1 => if b = true then ∃ N : St → Hp → Prop, (∀ σ' H', N σ' H' → ∃ m', m' < m ∧ W m' σ' H') ∧ tb { D with nx := N, ct := N, bk := D.nx } σ H1 else D.nx σ H1
theorem ps_while {c : Expr} {body : List Stmt} {tc : TT} {tb : TS} (hp : PassesOwn (model X.prog X.w) X.A X.env X.xe) (hc : PT X c tc) (hb : PSs X body tb) : PS X (.While c body [] pos) (tWhile tc tb) := by
  intro pins s σ H D I h
  obtain ⟨W, ⟨m0, w0⟩, turn⟩ := h
  refine wpAny_While (codeAny_whileLoop (fun n s' => ∃ σ' H', Inv X pins σ' H' s' ∧ W n σ' H') ?_ m0 ⟨σ, H, I, w0⟩)
  rintro n s1 ⟨σ1, H1, I1, w1⟩
  refine wpAny_passesOwn hp (thn (hc pins s1 σ1 H1 _ I1 (turn n σ1 H1 w1)) fun b s2 ⟨H2, I2, q2⟩ => ?_)
  cases b with
  | true =>
    obtain ⟨N, hN, q2⟩ := q2
    rw [if_pos rfl]
    refine wpAny_passesOwn hp (thn (hb pins s2 σ1 H2 _ I2 q2) fun f s3 q3 => ?_)
    cases f with
    | next =>
      obtain ⟨σ3, H3, I3, n3⟩ := q3
      obtain ⟨m', hm, w3⟩ := hN σ3 H3 n3
      exact ⟨m', hm, σ3, H3, I3, w3⟩
    | cont =>
      obtain ⟨σ3, H3, I3, n3⟩ := q3
      obtain ⟨m', hm, w3⟩ := hN σ3 H3 n3
      exact ⟨m', hm, σ3, H3, I3, w3⟩
    | brk => exact q3
    | ret v => exact q3
  | false =>
    rw [if_neg Bool.false_ne_true]
    exact wpAny_execs_nil ⟨σ1, H2, I2, q2⟩
end

/-! ### what a loop or a comprehension walks -/
/-- at turn i: it yields x (the heap may grow), or it stops -/
structure It where
  go : Nat → Hp → Prop
  yld : Nat → Hp → V → Hp → Prop
  stop : Nat → Hp → Prop
/-- the iterator's own objects may turn: they are not the frame's, not pinned, younger than the entry (or a comprehension's own) -/
def FpOk (X : Cx) (pins : List (Addr × Obj)) (H : Hp) (b : Addr) : Prop :=
  H b = none ∧ b ≠ X.env.locals ∧ b ∉ X.fs ∧ (b ∈ X.ex ∨ X.s_0.heap.objs.size ≤ b) ∧ (∀ x c, X.env.cells.lookup x = some c → c ≠ b) ∧ ∀ p ∈ X.pn ++ pins, p.1 ≠ b
theorem Inv.fpOk {X : Cx} {pins : List (Addr × Obj)} {σ : St} {H H' : Hp} {s : Shared} {b : Addr} (I : Inv X pins σ H s) (hb : s.heap.objs.size ≤ b) (hn : H' b = none) : FpOk X pins H' b := by
  refine ⟨hn, Nat.ne_of_gt (Nat.lt_of_lt_of_le I.lt hb), I.nofs hb, .inr (Nat.le_trans I.sz hb), fun x c e z => ?_, fun p hp z => ?_⟩
  · obtain ⟨v, q⟩ := I.cell x c e
    exact absurd (Nat.lt_of_lt_of_le q.lt (by rw [z]; exact hb)) (Nat.lt_irrefl _)
  · exact absurd (Nat.lt_of_lt_of_le (Heap.lt_size (I.pin p hp).1) (by rw [z]; exact hb)) (Nat.lt_irrefl _)
structure Turn (P : Program) (w : World) (K : PySem.W.Frag) (tg : Expr) (J : It) (fp : List Addr) (it : Addr) (tn : Nat → Heap → Prop) : Prop where
  mem : it ∈ fp
  obj : ∀ i h, tn i h → ∀ b ∈ fp, ∃ o, h.get? b = some o ∧ ∀ v, o.data ≠ .cell v
  keep : ∀ i h h', tn i h → (∀ b ∈ fp, ∀ o, h.get? b = some o → h'.get? b = some o) → tn i h'
  item : ∀ (X : Cx), X.prog = P → X.w = w → X.K = K → X.calm = true → ∀ (i : Nat) (pins : List (Addr × Obj)) (s : Shared) (σ : St) (H : Hp) (E : Value → Shared → Prop), Inv X pins σ H s → (∀ b ∈ fp, FpOk X pins H b) → tn i s.heap → J.go i H →
    wpAny (model P w) X.A (pyNext (.ref it)) (fun r s1 => ∃ u, r = some u ∧
      wpAny (model P w) X.A (letOwnedTupleGo tg (.ref it) u) (fun _ s2 => ∃ x H', Inv X pins σ H' s2 ∧ RelV x u ∧ J.yld i H x H' ∧ tn (i + 1) s2.heap ∧ ∀ b ∈ fp, H' b = none) E s1) E s
  done : ∀ (X : Cx), X.prog = P → X.w = w → X.K = K → X.calm = true → ∀ (i : Nat) (pins : List (Addr × Obj)) (s : Shared) (σ : St) (H : Hp) (E : Value → Shared → Prop), Inv X pins σ H s → (∀ b ∈ fp, FpOk X pins H b) → tn i s.heap → J.stop i H →
    wpAny (model P w) X.A (pyNext (.ref it)) (fun r s1 => r = none ∧ Inv X pins σ H s1) E s
  self : ∀ (A : Around) (i : Nat) (s : Shared) (Q : Value → Shared → Prop) (E : Value → Shared → Prop), tn i s.heap → Q (.ref it) s → wpAny (model P w) A (pyIter (.ref it)) Q E s
abbrev TI := St → Hp → (It → Hp → Prop) → Prop
/-- an iterator has come -/
def PIE (X : Cx) (pins : List (Addr × Obj)) (σ : St) (tg : Expr) (R : It → Hp → Prop) (itv : Value) (s2 : Shared) : Prop :=
  ∃ (it : Addr) (fp : List Addr) (tn : Nat → Heap → Prop) (J : It) (H' : Hp), itv = .ref it ∧ Inv X pins σ H' s2 ∧ Turn X.prog X.w X.K tg J fp it tn ∧ tn 0 s2.heap ∧ (∀ b ∈ fp, FpOk X pins H' b) ∧ R J H'
def PI (X : Cx) (tg iter : Expr) (wi : TI) : Prop :=
  ∀ (pins : List (Addr × Obj)) (s : Shared) (σ : St) (H : Hp) (R : It → Hp → Prop), Inv X pins σ H s → wi σ H R →
    wpAny (model X.prog X.w) X.A (eval iter X.env) (fun v s1 => wpAny (model X.prog X.w) X.A (pyIter v) (PIE X pins σ tg R) X.xe s1) X.xe s

/-- the step ahead of the store is nothing for an iterator that keeps no tuple -/
theorem go_of {M : Model} {A : Around} {E : Value → Shared → Prop} {s : Shared} {tg : Expr} {it : Addr} {u : Value} {o : Obj} {n : String} {vs : Array Value} {Q : Unit → Shared → Prop} (ho : s.heap.get? it = some o) (hc : o.cls = .type n) (hd : o.data = .fields vs)
    (hn : ["enumerate", "zip", "dict_itemiterator", "dict_reverseitemiterator", "odict_iterator", "itertools.zip_longest", "itertools.pairwise"].contains n = false) (hQ : Q () s) : wpAny M A (letOwnedTupleGo tg (.ref it) u) Q E s := by
  unfold letOwnedTupleGo
  cases tg <;> first
    | exact wpAny_pure hQ
    | (cases u <;> first
        | exact wpAny_pure hQ
        | (refine wpAny_bind (wpAny_load ho ?_)
           rw [hc, hd]
           show wpAny M A (if (["enumerate", "zip", "dict_itemiterator", "dict_reverseitemiterator", "odict_iterator", "itertools.zip_longest", "itertools.pairwise"].contains n && vs[0]? == some (rawInt _)) = true then _ else _) Q E s
           rw [if_neg (by intro h; rw [hn, Bool.false_and] at h; cases h)]
           exact wpAny_pure hQ))

/-- the list at a, as it stands at each turn (a loop may append to it) -/
def Itl (K : PySem.W.Frag) (a : Addr) : It :=
  ⟨fun i H => ∃ xs x, SqL K H a xs ∧ xs[i]? = some x, fun i H x H' => H' = H ∧ ∀ xs, SqL K H a xs → xs[i]? = some x, fun i H => ∃ xs, SqL K H a xs ∧ xs.length ≤ i⟩
/-- lo, lo + 1, .. (n of them) -/
def Itr (lo : Int) (n : Nat) : It := ⟨fun i _ => i < n, fun i H x H' => H' = H ∧ x = .int (lo + i), fun i _ => n ≤ i⟩
theorem turn_list {P : Program} {w : World} {K : PySem.W.Frag} {tg : Expr} (a it : Addr) : Turn P w K tg (Itl K a) [it] it (fun i h => h.IsListIter it a i) where
  mem := by simp
  obj := fun i h st b hb => by
    have e : b = it := by simpa using hb
    subst e
    obtain ⟨o, e, c, d⟩ := st
    exact ⟨o, e, fun v z => by rw [d] at z; cases z⟩
  keep := fun i h h' st k => st.at fun o e => k it (by simp) o e
  item := by
    intro X hP hw hK hc i pins s σ H E I hf st hg
    subst hP hw hK
    obtain ⟨xs, x, hq, hx⟩ := hg
    obtain ⟨its, rv, p, hz⟩ := I.list hq
    obtain ⟨u, hu, ru⟩ := rv.get hx
    obtain ⟨f0, f1, f2, f3, f4, f5⟩ := hf it (by simp)
    refine wpAny_pyNext_list_item st p.isList (x := u) (by simpa using hu) fun h' st' sb => ?_
    have I1 : Inv X pins σ H { s with heap := h' } := I.turned (t' := s.toks) (fun b o hb e => (sb.2 b hb).trans e) f0 f1 f3 f4 f5
    obtain ⟨o, e, c, d⟩ := id st'
    exact ⟨u, rfl, go_of (s := { s with heap := h' }) e c d (by decide) ⟨x, H, I1, ru, ⟨rfl, fun ys hy => by rw [I.list_inj hy hq]; exact hx⟩, st', fun b hb => (hf b hb).1⟩⟩
  done := by
    intro X hP hw hK hc i pins s σ H E I hf st hg
    subst hP hw hK
    obtain ⟨xs, hq, hx⟩ := hg
    obtain ⟨its, rv, p, hz⟩ := I.list hq
    obtain ⟨f0, f1, f2, f3, f4, f5⟩ := hf it (by simp)
    have hl := rv.length
    exact wpAny_pyNext_list_end (I.ok.hd hc) st p.isList (by simp; omega) fun h' eb => ⟨rfl, I.turned (t' := s.toks) (fun b o hb e => eb b o hb e) f0 f1 f3 f4 f5⟩
  self := fun _ _ _ _ _ st h => wpAny_pyIter_listiter st h
theorem turn_range {P : Program} {w : World} {K : PySem.W.Frag} {tg : Expr} (it : Addr) (lo : Int) (n : Nat) : Turn P w K tg (Itr lo n) [it] it (fun i h => IsRangeIter h it (lo + (i : Nat) * 1) ((n : Int) - (i : Nat)) 1) where
  mem := by simp
  obj := fun i h st b hb => by
    have e : b = it := by simpa using hb
    subst e
    exact ⟨_, st, fun v z => by
      have z' : Data.fields _ = Data.cell v := z
      cases z'⟩
  keep := fun i h h' st k => k it (by simp) _ st
  item := by
    intro X hP hw hK hc i pins s σ H E I hf st hg
    subst hP hw hK
    obtain ⟨f0, f1, f2, f3, f4, f5⟩ := hf it (by simp)
    have W := Walks.range (prog := X.prog) (w := X.w) (I.ok.hd hc) it lo 1 n
    refine W.item i s _ _ hg st fun v h' tk hv st' kk => ?_
    obtain ⟨t, rfl⟩ := hv
    have I1 : Inv X pins σ H { s with heap := h', toks := tk } := I.turned (fun b o hb e => kk b o (by simpa using hb) e) f0 f1 f3 f4 f5
    refine ⟨_, rfl, go_of (s := { s with heap := h', toks := tk }) (n := "range_iterator") st' rfl rfl (by decide) ⟨.int (lo + i), H, I1, ⟨t, ?_⟩, ⟨rfl, rfl⟩, st', fun b hb => (hf b hb).1⟩⟩
    rw [Int.mul_one]
  done := by
    intro X hP hw hK hc i pins s σ H E I hf st hg
    subst hP hw hK
    obtain ⟨f0, f1, f2, f3, f4, f5⟩ := hf it (by simp)
    exact wpAny_pyNext_range_end (I.ok.hd hc) st (by have : n ≤ i := hg; omega) fun h' eb => ⟨rfl, I.turned (t' := s.toks) (fun b o hb e => eb b o hb e) f0 f1 f3 f4 f5⟩
  self := fun _ _ _ _ _ st h => wpAny_pyIter_rangeiter st h
end L2

namespace L2
open PySem PySem.Spec PyProof.Rows
section
variable {X : Cx} {tg : Expr}
def iList (K : PySem.W.Frag) (tl : TE) : TI := fun σ H R => tl σ H fun x H1 => ∃ a, x = .ref a ∧ (∃ xs, SqL K H1 a xs) ∧ R (Itl K a) H1
theorem pi_list {l : Expr} {tl : TE} (hl : PE X l tl) : PI X tg l (iList X.K tl) := by
  intro pins s σ H R I h
  refine thn (hl pins s σ H _ I h) fun v s1 ⟨x, H1, I1, r1, q1⟩ => ?_
  obtain ⟨a, e, ⟨xs, hq⟩, q⟩ := q1
  subst e
  cases r1
  obtain ⟨its, rv, p, hz⟩ := I1.list hq
  refine wpAny_pyIter_list p.isList ?_
  refine ⟨s1.heap.objs.size, [s1.heap.objs.size], _, _, H1, rfl, I1.kept (t' := s1.toks) fun b o e => Heap.get?_push_of_some _ e, turn_list a _, ⟨_, Heap.get?_push_size _ rfl, rfl, rfl⟩, fun b hb => ?_, q⟩
  have e : b = s1.heap.objs.size := by simpa using hb
  subst e
  exact I1.fpOk (Nat.le_refl _) (I1.hok.fresh (Nat.le_refl _))
/-- a range object just made, walked -/
theorem range_it {pins : List (Addr × Obj)} {σ : St} {H : Hp} {s : Shared} {R : It → Hp → Prop} {E : Value → Shared → Prop} {lo hi : Int} {t u v : Tok} {tk : Nat} (I : Inv X pins σ H s) (h1 : -(2 ^ 62) ≤ lo) (h2 : lo < 2 ^ 62) (h3 : -(2 ^ 62) ≤ hi) (h4 : hi < 2 ^ 62)
    (q : R (Itr lo (hi - lo).toNat) H) : wpAny (model X.prog X.w) X.A (pyIter (.ref s.heap.objs.size)) (PIE X pins σ tg R) E { s with heap := s.heap.push { cls := .type "range", data := .fields #[.int lo t, .int hi u, .int 1 v] }, toks := tk } := by
  refine wpAny_pyIter_range (IsRange.new ..) (small_one h1 h2 h3 h4) ?_
  have I1 : Inv X pins σ H { s with heap := s.heap.push { cls := .type "range", data := .fields #[.int lo t, .int hi u, .int 1 v] }, toks := tk } := I.kept fun b o e => Heap.get?_push_of_some _ e
  refine ⟨(s.heap.push { cls := .type "range", data := .fields #[.int lo t, .int hi u, .int 1 v] }).objs.size, [(s.heap.push { cls := .type "range", data := .fields #[.int lo t, .int hi u, .int 1 v] }).objs.size], _, _, H, rfl,
    I1.kept (t' := tk) fun b o e => Heap.get?_push_of_some _ e, turn_range _ lo (hi - lo).toNat, ?_, fun b hb => ?_, q⟩
  · have e1 : lo + ((0 : Nat) : Int) * 1 = lo := by simp
    have e2 : (((hi - lo).toNat : Nat) : Int) - ((0 : Nat) : Int) = Builtin.Range.rangeSize lo hi 1 := by rw [rangeSize_one]; split <;> omega
    show IsRangeIter _ _ (lo + ((0 : Nat) : Int) * 1) ((((hi - lo).toNat : Nat) : Int) - ((0 : Nat) : Int)) 1
    rw [e1, e2]
    exact Heap.get?_push_size _ rfl
  · have e : b = (s.heap.push { cls := .type "range", data := .fields #[.int lo t, .int hi u, .int 1 v] }).objs.size := by simpa using hb
    subst e
    exact I1.fpOk (Nat.le_refl _) (I1.hok.fresh (Nat.le_refl _))
def iRng1 (ta : TA) : TI := fun σ H R => ta σ H fun vs H1 => ∃ j : Int, vs = [.int j] ∧ -(2 ^ 62) ≤ j ∧ j < 2 ^ 62 ∧ R (Itr 0 j.toNat) H1
theorem pi_range1 {a : Expr} {ta : TA} {p pos : Pos} (hg : Gl X "range") (hm : X.mg "range" = none) (ha : PA X [a] ta) (hs : starEach [a] X.env = [(false, eval a X.env)] := by rfl) : PI X tg (.Call (.Name "range" p) [a] [] pos) (iRng1 ta) := by
  intro pins s σ H R I h
  refine Call_ (ld_blt I hg hm boot_range (PyProof.Rows.callWith_type1 (thn (ha pos pins s σ H _ I h) fun us s1 ⟨vs, H1, I1, r1, q1⟩ => ?_) hs rfl))
  obtain ⟨j, e, q1, q2, q⟩ := q1
  subst e
  cases r1 with
  | cons r rr =>
    cases rr
    obtain ⟨t, rfl⟩ := r
    exact call_range_1 (range_it I1 (by omega) (by omega) q1 q2 (by simpa using q))
/-! ### for -/
/-- W: the invariant by the turn and a measure; N: what the body is to reach -/
def tFor (wi : TI) (g : TG) (tb : TS) : TS := fun D σ H => wi σ H fun J H1 => ∃ W : Nat → Nat → St → Hp → Prop, (∃ m, W 0 m σ H1) ∧ ∀ i m σ H, W i m σ H →
  (J.stop i H ∧ D.nx σ H) ∨ (J.go i H ∧ ∃ N : St → Hp → Prop, (∀ σ' H', N σ' H' → ∃ m', m' < m ∧ W (i + 1) m' σ' H') ∧ ∀ x H', J.yld i H x H' → g x σ H' fun σ2 H2 => tb { D with nx := N, ct := N, bk := D.nx } σ2 H2)
/-- the records at fp as they stand -/
def pinsAt (fp : List Addr) (h : Heap) : List (Addr × Obj) := fp.filterMap fun b => (h.get? b).map fun o => (b, o)
theorem mem_pinsAt {fp : List Addr} {h : Heap} {b : Addr} {o : Obj} (hb : b ∈ fp) (e : h.get? b = some o) : (b, o) ∈ pinsAt fp h := List.mem_filterMap.mpr ⟨b, hb, by rw [e]; rfl⟩
theorem of_pinsAt {fp : List Addr} {h : Heap} {p : Addr × Obj} (hp : p ∈ pinsAt fp h) : p.1 ∈ fp ∧ h.get? p.1 = some p.2 := by
  obtain ⟨b, hb, e⟩ := List.mem_filterMap.mp hp
  cases q : h.get? b with
  | none => rw [q] at e; cases e
  | some o =>
    rw [q] at e
    have e' : (b, o) = p := Option.some.inj e
    subst e'
    exact ⟨hb, q⟩
theorem Inv.pinned {pins : List (Addr × Obj)} {σ : St} {H : Hp} {s : Shared} {fp : List Addr} (I : Inv X pins σ H s) (hf : ∀ b ∈ fp, FpOk X pins H b) (ho : ∀ b ∈ fp, ∃ o, s.heap.get? b = some o ∧ ∀ v, o.data ≠ .cell v) : Inv X (pins ++ pinsAt fp s.heap) σ H s :=
  I.pins_of fun p hp => (List.mem_append.mp hp).elim (fun z => I.pin p (List.mem_append_right _ z)) fun z => by
    obtain ⟨hb, e⟩ := of_pinsAt z
    obtain ⟨f0, f1, f2, _⟩ := hf p.1 hb
    obtain ⟨o, e', d⟩ := ho p.1 hb
    rw [e] at e'; cases e'
    exact ⟨e, f0, f1, f2, d⟩
theorem Inv.unpinned {pins pl : List (Addr × Obj)} {σ : St} {H : Hp} {s : Shared} (I : Inv X (pins ++ pl) σ H s) : Inv X pins σ H s := I.pins_of fun p hp => I.pin p (List.mem_append_right _ (List.mem_append_left _ hp))
theorem ps_for {iter : Expr} {body : List Stmt} {wi : TI} {g : TG} {tb : TS} {pos : Pos} (hp : PassesOwn (model X.prog X.w) X.A X.env X.xe) (hc : X.calm = true) (hi : PI X tg iter wi) (hg : PG X tg g) (hb : PSs X body tb)
    (hs : ∀ x, foldedSetIterable iter X.env x = pure x := by intro _; rfl) : PS X (.For tg iter body [] pos) (tFor wi g tb) := by
  intro pins s σ H D I h
  refine wpAny_For (thn (hi pins s σ H _ I h) fun v s1 h1 => thn h1 fun itv s2 h2 => ?_) hs
  obtain ⟨it, fp, tn, J, H2, e, I2, T, st2, f2, W, ⟨m0, w0⟩, turn⟩ := h2
  subst e
  -- what stays true of the iterator's objects through the loop
  have stat : ∀ {H' : Hp}, (∀ b ∈ fp, H' b = none) → ∀ b ∈ fp, FpOk X pins H' b := fun hn b hb => ⟨hn b hb, (f2 b hb).2⟩
  refine codeAny_forLoop_any (fun n s' => ∃ i σ' H', Inv X pins σ' H' s' ∧ tn i s'.heap ∧ (∀ b ∈ fp, H' b = none) ∧ W i n σ' H') ?_ m0 ⟨0, σ, H2, I2, st2, fun b hb => (f2 b hb).1, w0⟩
  rintro n s3 ⟨i, σ3, H3, I3, st3, fr3, w3⟩
  rcases turn i n σ3 H3 w3 with ⟨stop, qn⟩ | ⟨go, N, hN, step⟩
  · refine wpAny_passesOwn hp (thn (T.done X rfl rfl rfl hc i pins s3 σ3 H3 X.xe I3 (stat fr3) st3 stop) fun r s4 ⟨hr, I4⟩ => ?_)
    subst hr
    exact wpAny_execs_nil ⟨σ3, H3, I4, qn⟩
  · refine wpAny_passesOwn hp (thn (T.item X rfl rfl rfl hc i pins s3 σ3 H3 X.xe I3 (stat fr3) st3 go) fun r s4 ⟨u, hr, h4⟩ => ?_)
    subst hr
    refine wpAny_passesOwn hp (thn h4 fun _ s5 ⟨x, H5, I5, r5, y5, st5, fr5⟩ => ?_)
    have I5' := I5.pinned (stat fr5) (T.obj _ _ st5)
    refine wpAny_passesOwn hp (thn (hg _ s5 σ3 H5 x u _ I5' r5 (step x H5 y5)) fun _ s6 ⟨σ6, H6, I6, q6⟩ => ?_)
    refine wpAny_passesOwn hp (thn (hb _ s6 σ6 H6 _ I6 q6) fun f s7 q7 => ?_)
    have again : ∀ {σ7 : St} {H7 : Hp}, Inv X (pins ++ pinsAt fp s5.heap) σ7 H7 s7 → N σ7 H7 → ∃ m, m < n ∧ ∃ i σ' H', Inv X pins σ' H' s7 ∧ tn i s7.heap ∧ (∀ b ∈ fp, H' b = none) ∧ W i m σ' H' := fun {σ7 H7} I7 n7 => by
      obtain ⟨m', hm, w7⟩ := hN σ7 H7 n7
      refine ⟨m', hm, i + 1, σ7, H7, I7.unpinned, T.keep _ _ _ st5 fun b hb o e => (I7.pin (b, o) (List.mem_append_right _ (List.mem_append_right _ (mem_pinsAt hb e)))).1, fun b hb => ?_, w7⟩
      obtain ⟨o, e, d⟩ := T.obj _ _ st5 b hb
      exact (I7.pin (b, o) (List.mem_append_right _ (List.mem_append_right _ (mem_pinsAt hb e)))).2.1
    cases f with
    | next => obtain ⟨σ7, H7, I7, n7⟩ := q7; exact again I7 n7
    | cont => obtain ⟨σ7, H7, I7, n7⟩ := q7; exact again I7 n7
    | brk => obtain ⟨σ7, H7, I7, q7⟩ := q7; exact ⟨σ7, H7, I7.unpinned, q7⟩
    | ret v => obtain ⟨x7, σ7, H7, I7, r7, q7⟩ := q7; exact ⟨x7, σ7, H7, I7.unpinned, r7, q7⟩
end

/-! ### the forms one uses -/
/-- over a list that the body leaves as it is -/
theorem for_list {K : PySem.W.Frag} {a : Addr} {xs : List V} {g : TG} {tb : TS} {D : Ends} {σ : St} {H : Hp} (Pv : Nat → St → Hp → Prop) (h0 : Pv 0 σ H) (hl : ∀ i σ H, i ≤ xs.length → Pv i σ H → SqL K H a xs)
    (hs : ∀ i x σ H, xs[i]? = some x → Pv i σ H → g x σ H fun σ2 H2 => tb { D with nx := Pv (i + 1), ct := Pv (i + 1), bk := D.nx } σ2 H2) (hd : ∀ σ H, Pv xs.length σ H → D.nx σ H) :
    ∃ W : Nat → Nat → St → Hp → Prop, (∃ m, W 0 m σ H) ∧ ∀ i m σ H, W i m σ H →
      ((Itl K a).stop i H ∧ D.nx σ H) ∨ ((Itl K a).go i H ∧ ∃ N : St → Hp → Prop, (∀ σ' H', N σ' H' → ∃ m', m' < m ∧ W (i + 1) m' σ' H') ∧ ∀ x H', (Itl K a).yld i H x H' → g x σ H' fun σ2 H2 => tb { D with nx := N, ct := N, bk := D.nx } σ2 H2) := by
  refine ⟨fun i m σ H => m = xs.length - i ∧ i ≤ xs.length ∧ Pv i σ H, ⟨xs.length, by simp, Nat.zero_le _, h0⟩, ?_⟩
  rintro i m σ H ⟨rfl, hi, p⟩
  have q := hl i σ H hi p
  by_cases hlt : i < xs.length
  · refine .inr ⟨⟨xs, xs[i], q, by simp [hlt]⟩, Pv (i + 1), fun σ' H' p' => ⟨xs.length - (i + 1), by omega, rfl, hlt, p'⟩, fun x H' y => ?_⟩
    obtain ⟨e, y⟩ := y
    subst e
    exact hs i x σ _ (y xs q) p
  · have e : i = xs.length := by omega
    subst e
    exact .inl ⟨⟨xs, q, Nat.le_refl _⟩, hd σ H p⟩
theorem for_range {lo : Int} {n : Nat} {g : TG} {tb : TS} {D : Ends} {σ : St} {H : Hp} (Pv : Nat → St → Hp → Prop) (h0 : Pv 0 σ H)
    (hs : ∀ i σ H, i < n → Pv i σ H → g (.int (lo + i)) σ H fun σ2 H2 => tb { D with nx := Pv (i + 1), ct := Pv (i + 1), bk := D.nx } σ2 H2) (hd : ∀ σ H, Pv n σ H → D.nx σ H) :
    ∃ W : Nat → Nat → St → Hp → Prop, (∃ m, W 0 m σ H) ∧ ∀ i m σ H, W i m σ H →
      ((Itr lo n).stop i H ∧ D.nx σ H) ∨ ((Itr lo n).go i H ∧ ∃ N : St → Hp → Prop, (∀ σ' H', N σ' H' → ∃ m', m' < m ∧ W (i + 1) m' σ' H') ∧ ∀ x H', (Itr lo n).yld i H x H' → g x σ H' fun σ2 H2 => tb { D with nx := N, ct := N, bk := D.nx } σ2 H2) := by
  refine ⟨fun i m σ H => m = n - i ∧ i ≤ n ∧ Pv i σ H, ⟨n, by simp, Nat.zero_le _, h0⟩, ?_⟩
  rintro i m σ H ⟨rfl, hi, p⟩
  by_cases hlt : i < n
  · refine .inr ⟨hlt, Pv (i + 1), fun σ' H' p' => ⟨n - (i + 1), by omega, rfl, hlt, p'⟩, fun x H' y => ?_⟩
    obtain ⟨e, y⟩ := y
    subst e y
    exact hs i σ _ hlt p
  · have e : i = n := by omega
    subst e
    exact .inl ⟨Nat.le_refl _, hd σ H p⟩
/-- while, by a word and a measure of the state -/
theorem while_by {c : TT} {tb : TS} {D : Ends} {σ : St} {H : Hp} (Pv : St → Hp → Prop) (μ : St → Hp → Nat) (h0 : Pv σ H)
    (hs : ∀ σ H, Pv σ H → c σ H fun b H1 => if b = true then tb { D with nx := fun σ' H' => Pv σ' H' ∧ μ σ' H' < μ σ H, ct := fun σ' H' => Pv σ' H' ∧ μ σ' H' < μ σ H, bk := D.nx } σ H1 else D.nx σ H1)
    (mono : ∀ σ H Q Q', (∀ b H1, Q b H1 → Q' b H1) → c σ H Q → c σ H Q') : tWhile c tb D σ H := by
  refine ⟨fun m σ H => m = μ σ H ∧ Pv σ H, ⟨_, rfl, h0⟩, ?_⟩
  rintro m σ H ⟨rfl, p⟩
  refine mono σ H _ _ (fun b H1 q => ?_) (hs σ H p)
  cases b with
  | true => exact ⟨_, fun σ' H' ⟨p', l⟩ => ⟨_, l, rfl, p'⟩, q⟩
  | false => exact q
end L2

namespace L2
open PySem PySem.Spec PyProof.Rows

abbrev R2 := V → V → Hp → VK → Prop
/-- a two-place operation on values: f is binaryOp op, inplaceOp op or compareOp op -/
def OpR (X : Cx) (f : Value → Value → Sem Value) (r : R2) : Prop :=
  ∀ (pins : List (Addr × Obj)) (s : Shared) (σ : St) (H : Hp) (x y : V) (v u : Value) (Q : VK), Inv X pins σ H s → RelV x v → RelV y u → r x y H Q →
    wpAny (model X.prog X.w) X.A (f v u) (EP X pins σ Q) X.xe s
/-- a call of a value that is known (a builtin, a type) with values -/
def CallR (X : Cx) (f : Value) (r : List V → Hp → VK → Prop) : Prop :=
  ∀ (pins : List (Addr × Obj)) (s : Shared) (σ : St) (H : Hp) (xs : List V) (us : List Value) (Q : VK), Inv X pins σ H s → Vals xs us → r xs H Q →
    wpAny (model X.prog X.w) X.A (call f us) (EP X pins σ Q) X.xe s
def tOp (r : R2) (ta tb : TE) : TE := fun σ H Q => ta σ H fun x H1 => tb σ H1 fun y H2 => r x y H2 Q
def rI0 (g : Int → Int → V) : R2 := fun x y H Q => ∃ i j, x = .int i ∧ y = .int j ∧ Q (g i j) H
section
variable {X : Cx} {a b c : Expr} {ta tb tc : TE} {pos : Pos}

theorem binT (ha : PE X a ta) (hb : PE X b tb) {pins : List (Addr × Obj)} {s : Shared} {σ : St} {H : Hp} {R : V → V → Hp → Prop} (I : Inv X pins σ H s)
    (h : ta σ H fun x H1 => tb σ H1 fun y H2 => R x y H2) {Q : Value → Shared → Prop} {f : Value → Value → Sem Value}
    (hf : ∀ v u s2 x y H2, Inv X pins σ H2 s2 → RelV x v → RelV y u → R x y H2 → wpAny (model X.prog X.w) X.A (f v u) Q X.xe s2) :
    wpAny (model X.prog X.w) X.A (eval a X.env) (fun v s₁ => wpAny (model X.prog X.w) X.A (eval b X.env) (fun u s₂ => wpAny (model X.prog X.w) X.A (f v u) Q X.xe s₂) X.xe s₁) X.xe s := by
  refine thn (ha pins s σ H _ I h) fun v s1 ⟨x, H1, I1, r1, q1⟩ => ?_
  refine thn (hb pins s1 σ H1 _ I1 q1) fun u s2 ⟨y, H2, I2, r2, q2⟩ => ?_
  exact hf v u s2 x y H2 I2 r1 r2 q2

theorem pe_op {op : Operator} {r : R2} (ho : OpR X (binaryOp op) r) (ha : PE X a ta) (hb : PE X b tb) : PE X (.BinOp a op b pos) (tOp r ta tb) := by
  intro pins s σ H Q I h
  exact wpAny_BinOp (binT ha hb I h fun v u s2 x y H2 I2 rx ry q => ho pins s2 σ H2 x y v u Q I2 rx ry q)
/-! ### ints -/
theorem opI0 {f : Value → Value → Sem Value} {g : Int → Int → Int}
    (rule : ∀ (i j : Int) (t u : Tok) (s : Shared) (Q : Value → Shared → Prop) (E : Value → Shared → Prop), Q (.int (g i j) s.toks) { s with toks := s.toks + 1 } → wpAny (model X.prog X.w) X.A (f (.int i t) (.int j u)) Q E s) :
    OpR X f (rI0 fun i j => .int (g i j)) := by
  intro pins s σ H x y v u Q I rx ry h
  obtain ⟨i, j, rfl, rfl, q⟩ := h
  obtain ⟨t, rfl⟩ := rx
  obtain ⟨t', rfl⟩ := ry
  exact rule i j t t' s _ _ ⟨.int (g i j), H, I.tok _, ⟨_, rfl⟩, q⟩
theorem opB0 {f : Value → Value → Sem Value} {g : Int → Int → Bool}
    (rule : ∀ (i j : Int) (t u : Tok) (s : Shared) (Q : Value → Shared → Prop) (E : Value → Shared → Prop), Q (.bool (g i j)) s → wpAny (model X.prog X.w) X.A (f (.int i t) (.int j u)) Q E s) :
    OpR X f (rI0 fun i j => .bl (g i j)) := by
  intro pins s σ H x y v u Q I rx ry h
  obtain ⟨i, j, rfl, rfl, q⟩ := h
  obtain ⟨t, rfl⟩ := rx
  obtain ⟨t', rfl⟩ := ry
  exact rule i j t t' s _ _ ⟨.bl (g i j), H, I, rfl, q⟩

theorem op_add : OpR X (binaryOp .Add) (rI0 fun i j => .int (i + j)) := opI0 fun _ _ _ _ _ _ _ q => add_int q
/-! ### bools among ints: n += (a < b) -/
end

/-! ### comparisons -/
/-- the scalars that == tells apart as data does -/
def scal : V → V → Bool
  | .non, .non => true | .non, .int _ => true | .int _, .non => true | .non, .bl _ => true | .bl _, .non => true | .non, .str _ => true | .str _, .non => true
  | .int _, .int _ => true | .bl _, .bl _ => true | .str _, .str _ => true | .byt _, .byt _ => true
  | .int _, .str _ => true | .str _, .int _ => true | .bl _, .str _ => true | .str _, .bl _ => true
  | _, _ => false
def rEq : R2 := fun x y H Q => scal x y = true ∧ Q (.bl (decide (x = y))) H
def rNe : R2 := fun x y H Q => scal x y = true ∧ Q (.bl (!decide (x = y))) H

theorem dec_int {i j : Int} : decide (V.int i = V.int j) = (i == j) := by
  rw [Bool.eq_iff_iff]
  simp
theorem dec_bl {i j : Bool} : decide (V.bl i = V.bl j) = (i == j) := by
  rw [Bool.eq_iff_iff]
  simp
theorem dec_str {i j : Str} : decide (V.str i = V.str j) = (i == j) := by
  rw [Bool.eq_iff_iff]
  simp
theorem dec_byt {i j : Array UInt8} : decide (V.byt i = V.byt j) = (i.toList == j.toList) := by
  rw [Bool.eq_iff_iff]
  cases i
  cases j
  simp

section
variable {X : Cx} {a b c : Expr} {ta tb tc : TE} {pos : Pos}
theorem fin_bl {pins : List (Addr × Obj)} {σ : St} {H : Hp} {s : Shared} {Q : VK} {k k' : Bool} (I : Inv X pins σ H s) (q : Q (.bl k) H) (e : k = k') : EP X pins σ Q (.bool k') s := by
  subst e
  exact ⟨.bl k, H, I, rfl, q⟩
theorem op_eq : OpR X (compareOp .Eq) rEq := by
  intro pins s σ H x y v u Q I rx ry h
  obtain ⟨hs, q⟩ := h
  cases x with
  | non =>
    cases rx
    cases y with
    | non => cases ry; exact PySem.EqNone.eq_none_none (fin_bl I q (by simp))
    | bl j => cases ry; exact PySem.EqNone.eq_none_bool (fin_bl I q (by simp))
    | int j => obtain ⟨t', rfl⟩ := ry; exact PySem.EqNone.eq_none_int (fin_bl I q (by simp))
    | str j => obtain ⟨t', rfl⟩ := ry; exact PySem.EqNone.eq_none_str (fin_bl I q (by simp))
    | _ => exact absurd (show false = true from hs) Bool.false_ne_true
  | bl i =>
    cases rx
    cases y with
    | non => cases ry; exact PySem.EqNone.eq_bool_none (fin_bl I q (by simp))
    | bl j => cases ry; exact eq_bool (fin_bl I q dec_bl)
    | str j => obtain ⟨t', rfl⟩ := ry; exact PySem.EqMixed.eq_bool_str (fin_bl I q (by simp))
    | _ => exact absurd (show false = true from hs) Bool.false_ne_true
  | int i =>
    obtain ⟨t, rfl⟩ := rx
    cases y with
    | non => cases ry; exact PySem.EqNone.eq_int_none (fin_bl I q (by simp))
    | int j => obtain ⟨t', rfl⟩ := ry; exact eq_int (fin_bl I q dec_int)
    | str j => obtain ⟨t', rfl⟩ := ry; exact PySem.EqMixed.eq_int_str (fin_bl I q (by simp))
    | _ => exact absurd (show false = true from hs) Bool.false_ne_true
  | str i =>
    obtain ⟨t, rfl⟩ := rx
    cases y with
    | non => cases ry; exact PySem.EqNone.eq_str_none (fin_bl I q (by simp))
    | bl j => cases ry; exact PySem.EqMixed.eq_str_bool (fin_bl I q (by simp))
    | int j => obtain ⟨t', rfl⟩ := ry; exact PySem.EqMixed.eq_str_int (fin_bl I q (by simp))
    | str j => obtain ⟨t', rfl⟩ := ry; exact eq_str (fin_bl I q dec_str)
    | _ => exact absurd (show false = true from hs) Bool.false_ne_true
  | byt i =>
    obtain ⟨t, rfl⟩ := rx
    cases y with
    | byt j => obtain ⟨t', rfl⟩ := ry; exact PySem.W.eq_bytes (fin_bl I q dec_byt)
    | _ => exact absurd (show false = true from hs) Bool.false_ne_true
  | _ => cases y <;> exact absurd (show false = true from hs) Bool.false_ne_true
theorem op_ne : OpR X (compareOp .NotEq) rNe := by
  intro pins s σ H x y v u Q I rx ry h
  obtain ⟨hs, q⟩ := h
  cases x with
  | non =>
    cases rx
    cases y with
    | non => cases ry; exact PySem.EqNone.ne_none_none (fin_bl I q (by simp))
    | bl j => cases ry; exact PySem.EqNone.ne_none_bool (fin_bl I q (by simp))
    | int j => obtain ⟨t', rfl⟩ := ry; exact PySem.EqNone.ne_none_int (fin_bl I q (by simp))
    | str j => obtain ⟨t', rfl⟩ := ry; exact PySem.EqNone.ne_none_str (fin_bl I q (by simp))
    | _ => exact absurd (show false = true from hs) Bool.false_ne_true
  | bl i =>
    cases rx
    cases y with
    | non => cases ry; exact PySem.EqNone.ne_bool_none (fin_bl I q (by simp))
    | bl j => cases ry; exact ne_bool (fin_bl I q (congrArg not dec_bl))
    | str j => obtain ⟨t', rfl⟩ := ry; exact PySem.EqMixed.ne_bool_str (fin_bl I q (by simp))
    | _ => exact absurd (show false = true from hs) Bool.false_ne_true
  | int i =>
    obtain ⟨t, rfl⟩ := rx
    cases y with
    | non => cases ry; exact PySem.EqNone.ne_int_none (fin_bl I q (by simp))
    | int j => obtain ⟨t', rfl⟩ := ry; exact ne_int (fin_bl I q (congrArg not dec_int))
    | str j => obtain ⟨t', rfl⟩ := ry; exact PySem.EqMixed.ne_int_str (fin_bl I q (by simp))
    | _ => exact absurd (show false = true from hs) Bool.false_ne_true
  | str i =>
    obtain ⟨t, rfl⟩ := rx
    cases y with
    | non => cases ry; exact PySem.EqNone.ne_str_none (fin_bl I q (by simp))
    | bl j => cases ry; exact PySem.EqMixed.ne_str_bool (fin_bl I q (by simp))
    | int j => obtain ⟨t', rfl⟩ := ry; exact PySem.EqMixed.ne_str_int (fin_bl I q (by simp))
    | str j => obtain ⟨t', rfl⟩ := ry; exact ne_str (fin_bl I q (congrArg not dec_str))
    | _ => exact absurd (show false = true from hs) Bool.false_ne_true
  | byt i =>
    obtain ⟨t, rfl⟩ := rx
    cases y with
    | byt j => obtain ⟨t', rfl⟩ := ry; exact PySem.W.ne_bytes (fin_bl I q (congrArg not dec_byt))
    | _ => exact absurd (show false = true from hs) Bool.false_ne_true
  | _ => cases y <;> exact absurd (show false = true from hs) Bool.false_ne_true

theorem op_lt : OpR X (compareOp .Lt) (rI0 fun i j => .bl (decide (i < j))) := opB0 fun _ _ _ _ _ _ _ q => lt_int q
theorem op_le : OpR X (compareOp .LtE) (rI0 fun i j => .bl (decide (i ≤ j))) := opB0 fun _ _ _ _ _ _ _ q => le_int q
theorem op_ge : OpR X (compareOp .GtE) (rI0 fun i j => .bl (decide (j ≤ i))) := opB0 fun _ _ _ _ _ _ _ q => ge_int q
theorem nomark (b : Expr) {op : CmpOp} (h : op ≠ .In := by decide) (h2 : op ≠ .NotIn := by decide) : behindInMarks op b = false := by
  have e1 : (op == CmpOp.In) = false := by cases op <;> first | rfl | exact absurd rfl h
  have e2 : (op == CmpOp.NotIn) = false := by cases op <;> first | rfl | exact absurd rfl h2
  cases b <;> simp [behindInMarks, e1, e2]
/-- a reading of a value as a test -/
def tTest (t : TE) : TT := fun σ H Q => t σ H fun x H' => ∃ k, x = .bl k ∧ Q k H'
theorem pt_cmpR {op : CmpOp} {r : R2} (ho : OpR X (compareOp op) r) (ha : PE X a ta) (hb : PE X b tb) (hm : behindInMarks op b = false) : PT X (.Compare a [op] [b] pos) (tTest (tOp r ta tb)) := by
  intro pins s σ H Q I h
  refine wpAny_isTrue_Compare1 (thn (ha pins s σ H _ I h) fun v s1 ⟨x, H1, I1, r1, q1⟩ => thn (hb pins s1 σ H1 _ I1 q1) fun u s2 ⟨y, H2, I2, r2, q2⟩ =>
    thn (ho pins s2 σ H2 x y v u _ I2 r1 r2 q2) fun c s3 ⟨z, H3, I3, r3, k, e, q3⟩ => ?_) hm
  subst e
  cases r3
  exact wpAny_truthy_bool ⟨H3, I3, q3⟩
/-- a op1 b op2 c -/
def tChain (r r' : R2) (ta tb tc : TE) : TE := fun σ H Q => ta σ H fun x H1 => tb σ H1 fun y H2 => r x y H2 fun z H3 => ∃ k, z = .bl k ∧
  (if k = true then tc σ H3 fun w' H4 => r' y w' H4 Q else Q (.bl false) H3)
theorem pe_chain {op op' : CmpOp} {r r' : R2} (ho : OpR X (compareOp op) r) (ho' : OpR X (compareOp op') r') (ha : PE X a ta) (hb : PE X b tb) (hc : PE X c tc)
    (hm : lastMarks [op, op'] [b, c] = false := by with_unfolding_all rfl) : PE X (.Compare a [op, op'] [b, c] pos) (tChain r r' ta tb tc) := by
  intro pins s σ H Q I h
  refine Compare_chain (thn (ha pins s σ H _ I h) fun v s1 ⟨x, H1, I1, r1, q1⟩ => chain_link (thn (hb pins s1 σ H1 _ I1 q1) fun u s2 ⟨y, H2, I2, r2, q2⟩ =>
    thn (ho pins s2 σ H2 x y v u _ I2 r1 r2 q2) fun d s3 ⟨z, H3, I3, r3, k, e, q3⟩ => ?_)) hm
  subst e
  cases r3
  refine wpAny_truthy_bool ?_
  cases k with
  | false => exact ite_ff ⟨.bl false, H3, I3, rfl, q3⟩
  | true => exact ite_tt (chain_last (thn (hc pins s3 σ H3 _ I3 q3) fun w' s4 ⟨z', H4, I4, r4, q4⟩ => ho' pins s4 σ H4 y z' u w' Q I4 r2 r4 q4))
theorem pt_chain {op op' : CmpOp} {r r' : R2} (ho : OpR X (compareOp op) r) (ho' : OpR X (compareOp op') r') (ha : PE X a ta) (hb : PE X b tb) (hc : PE X c tc)
    (hm : lastMarks [op, op'] [b, c] = false := by with_unfolding_all rfl) : PT X (.Compare a [op, op'] [b, c] pos) (tTest (tChain r r' ta tb tc)) := by
  intro pins s σ H Q I h
  refine isTrue_chain (thn (ha pins s σ H _ I h) fun v s1 ⟨x, H1, I1, r1, q1⟩ => test_link (thn (hb pins s1 σ H1 _ I1 q1) fun u s2 ⟨y, H2, I2, r2, q2⟩ =>
    thn (ho pins s2 σ H2 x y v u _ I2 r1 r2 q2) fun d s3 ⟨z, H3, I3, r3, k, e, q3⟩ => ?_)) hm
  subst e
  cases r3
  refine wpAny_truthy_bool ?_
  cases k with
  | false =>
    obtain ⟨k', e', q'⟩ := q3
    cases e'
    exact ite_ff ⟨H3, I3, q'⟩
  | true =>
    refine ite_tt (test_last (thn (hc pins s3 σ H3 _ I3 q3) fun w' s4 ⟨z', H4, I4, r4, q4⟩ => thn (ho' pins s4 σ H4 y z' u w' _ I4 r2 r4 q4) fun d' s5 ⟨z2, H5, I5, r5, k2, e2, q5⟩ => ?_))
    subst e2
    cases r5
    exact wpAny_truthy_bool ⟨H5, I5, q5⟩

/-! ### truth -/
theorem line63 : (sizeLine : Nat) < 2 ^ 63 := by rw [sizeLine_eq]; decide
/-! ### strs and bytes -/
/-! ### scalar builtins, by CallR -/
theorem vals1 {x : V} {us : List Value} (r : Vals [x] us) : ∃ u, us = [u] ∧ RelV x u := by
  cases r with
  | cons r1 r2 => cases r2; exact ⟨_, rfl, r1⟩
theorem vals2 {x y : V} {us : List Value} (r : Vals [x, y] us) : ∃ u w', us = [u, w'] ∧ RelV x u ∧ RelV y w' := by
  cases r with
  | cons r1 r2 =>
    cases r2 with
    | cons r3 r4 => cases r4; exact ⟨_, _, rfl, r1, r3⟩
end
end L2

namespace L2
open PySem PySem.Spec PyProof.Rows

/-! ### an instance, its attributes a map -/
structure ObjM (h : Heap) (x dx C : Addr) (mA : Str → Option Value) : Prop where
  obj : h.get? x = some (PySem.W.instObj C dx)
  ns : h.Ns1 dx mA
  ne : dx ≠ x

theorem lookIn_ns {h : Heap} {dx : Addr} {mA : Str → Option Value} (n : h.Ns1 dx mA) : ∃ od, h.get? dx = some od ∧ ∀ name, PySem.W.lookIn name od = some (mA name) := by
  obtain ⟨o, es, ep, ho, hd, hk, _, hm⟩ := n
  refine ⟨o, ho, fun name => ?_⟩
  have e := hm name
  unfold nsFind findBy at e
  rw [← Array.find?_toList] at e
  unfold PySem.W.lookIn
  rw [hd]
  dsimp only
  split
  · rename_i y q
    rw [q] at e
    exact congrArg some e
  · rename_i q
    rw [q] at e
    have a : es.toList.any (·.refKey) = false := by
      rw [List.any_eq_false]
      intro y hy
      obtain ⟨z, t, hkey⟩ := hk y (Array.mem_toList_iff.mp hy)
      simp [DictEntry.refKey, hkey]
    have a' : ¬ es.toList.any (·.refKey) = true := by rw [a]; exact Bool.false_ne_true
    rw [if_neg a']
    exact congrArg some e

theorem ObjM.look {h : Heap} {x dx C : Addr} {mA : Str → Option Value} (I : ObjM h x dx C mA) : ∃ od, PySem.W.InstAt h x (PySem.W.instObj C dx) C (some od) ∧ ∀ name, PySem.W.lookIn name od = some (mA name) :=
  let ⟨od, ho, hl⟩ := lookIn_ns I.ns
  ⟨od, ⟨I.obj, rfl, rfl, ho⟩, hl⟩

section
variable {prog : Program} {w : World} {A : Around} {E : Value → Shared → Prop} {s : Shared} {K : PySem.W.Frag} {x dx C f : Addr} {mA : Str → Option Value} {name : Str} {v : Value}

theorem get_map {expr : Bool} {Q : Value → Shared → Prop} (X : K.In s.heap) (I : ObjM s.heap x dx C mA) (hg : PySem.W.plainGet K C name = true) (hh : PySem.W.hasDictIn K C = true)
    (ha : PySem.W.findIn K (.ref C) name = some none) (hv : mA name = some v) (hv' : PySem.W.handedIn v = true) (h : Q v { s with toks := s.toks + 1 }) :
    wpAny (model prog w) A (getAttr (.ref x) name expr) Q E s := by
  obtain ⟨od, J, hl⟩ := I.look
  exact PySem.W.get_value X J (PySem.W.plainGet_of hg).1 (PySem.W.findObj_own hh ha rfl (by rw [hl, hv])) hv' h

theorem set_map {ns : List Str} {Q : Unit → Shared → Prop} (X : K.In s.heap) (I : ObjM s.heap x dx C mA)
    (hs : PySem.W.findIn K (.ref C) "__setattr__" = some (some (.builtin "object.__setattr__"))) (hp : PySem.W.plainOver K C = true) (ht : PySem.W.takerIn K C name = some none) (hh : PySem.W.hasDictIn K C = true)
    (hw : PySem.Within mA ns) (hsz : ns.length ≤ sizeLine)
    (h : ∀ h', ObjM h' x dx C (fun y => if y = name then some v else mA y) → Heap.SameBut dx s.heap h' → Q () { s with heap := h', toks := s.toks + 2 }) :
    wpAny (model prog w) A (setAttr (.ref x) name v) Q E s := by
  obtain ⟨od, J, hl⟩ := I.look
  refine PySem.W.set_plain X J hs (PySem.W.osa_open (s := { s with toks := s.toks + 1 }) (r := none) X J hp ht fun b => ?_)
  obtain ⟨cd, hc, hd'⟩ := PySem.W.any_some hh
  have hx : s.heap.get? x = some ⟨.ref C, some dx, .plain, #[]⟩ := I.obj
  refine wpAny_bind (wpAny_pure (wpAny_bind (wpAny_bind (wpAny_loadPart hx (wpAny_bind (PySem.W.Looks.here (s := { s with toks := s.toks + 1 }) (PySem.W.looks_clsIn X hc) ?_))))))
  rw [hd']
  refine wpAny_pure (a := some dx) (wpAny_bind (wpAny_pure (wpAny_bind ?_)))
  refine wpAny_nsSet1 (s := { s with toks := s.toks + 1 }) I.ns fun h' hn2 hs2 => ?_
  obtain ⟨oD, esD, epD, hoD, hdD, hcD⟩ := hn2.count (PySem.Within.cons name v hw)
  refine wpAny_bind (wpAny_lookBehind hoD (by rw [hdD]; exact pastItsLine_dict (Nat.le_trans hcD (by rw [List.length_cons]; omega))) ?_)
  exact wpAny_pure (h _ ⟨(hs2.2 _ (Ne.symm I.ne)).trans I.obj, hn2, I.ne⟩ hs2)

/-- C(..): the dict at the heap's end, the instance behind it; then its __init__ -/
theorem make_map {R : Result → Shared → Prop} {vs : List Value} {kw : List (Str × Value)} (X : K.In s.heap) (hm : PySem.W.makesIn K C = true)
    (hi : PySem.W.findIn K (.ref C) "__init__" = some (some (.ref f))) (hf : PySem.W.typeIn K (.ref f) = some (.type "function"))
    (h : codeAny (model prog w) (A.under (.builtin "type.__call__" ⟨.ref C :: vs, kw⟩)) (.call (.ref f) ⟨.ref (s.heap.objs.size + 1) :: vs, kw⟩) (PySem.W.InitBack (s.heap.objs.size + 1) R)
      { s with heap := (s.heap.push PySem.W.emptyDict).push (PySem.W.instObj C s.heap.objs.size) }) :
    codeAny (model prog w) A (.call (.ref C) ⟨vs, kw⟩) R s := by
  obtain ⟨hh, g, d, t, os⟩ := s
  exact PySem.W.make_core (PySem.W.makes_of X hm) (PySem.W.looks_findIn X hi) (fun self => PySem.W.bind_fn X self hf) (.inl rfl) h
end

/-! ### the attributes as a list of pairs -/
def putF (f : Str) (v : V) : List (Str × V) → List (Str × V)
  | [] => [(f, v)]
  | (g, x) :: r => if g = f then (g, v) :: r else (g, x) :: putF f v r
theorem lookup_putF (f g : Str) (v : V) : ∀ fs : List (Str × V), (putF f v fs).lookup g = if g = f then some v else fs.lookup g
  | [] => by
    show List.lookup g [(f, v)] = _
    by_cases h : g = f
    · have hb : (g == f) = true := beq_iff_eq.mpr h
      simp only [List.lookup, hb, if_pos h]
    · have hb : (g == f) = false := beq_eq_false_iff_ne.mpr h
      simp only [List.lookup, hb, if_neg h]
  | (k, x) :: r => by
    have ih := lookup_putF f g v r
    rw [show putF f v ((k, x) :: r) = (if k = f then (k, v) :: r else (k, x) :: putF f v r) from rfl]
    by_cases hk : k = f
    · rw [if_pos hk]
      by_cases h : g = k
      · have hb : (g == k) = true := beq_iff_eq.mpr h
        simp only [List.lookup, hb, if_pos (h.trans hk)]
      · have hb : (g == k) = false := beq_eq_false_iff_ne.mpr h
        simp only [List.lookup, hb, if_neg (fun e : g = f => h (e.trans hk.symm))]
    · rw [if_neg hk]
      by_cases h : g = k
      · have hb : (g == k) = true := beq_iff_eq.mpr h
        simp only [List.lookup, hb, if_neg (fun e : g = f => hk (h.symm.trans e))]
      · have hb : (g == k) = false := beq_eq_false_iff_ne.mpr h
        simp only [List.lookup, hb]
        exact ih
theorem keys_putF (f : Str) (v : V) : ∀ fs : List (Str × V), f ∈ (putF f v fs).map (·.1) ∧ ∀ g, g ∈ fs.map (·.1) → g ∈ (putF f v fs).map (·.1)
  | [] => ⟨by simp [putF], fun g h => by simp at h⟩
  | (k, x) :: r => by
    obtain ⟨i1, i2⟩ := keys_putF f v r
    rw [show putF f v ((k, x) :: r) = (if k = f then (k, v) :: r else (k, x) :: putF f v r) from rfl]
    by_cases hk : k = f
    · rw [if_pos hk]
      subst hk
      exact ⟨by simp, fun g h => by simpa using h⟩
    · rw [if_neg hk]
      refine ⟨?_, fun g h => ?_⟩
      · rw [List.map_cons]
        exact List.mem_cons_of_mem _ i1
      · rw [List.map_cons] at h ⊢
        rcases List.mem_cons.mp h with e | e
        · exact List.mem_cons.mpr (.inl e)
        · exact List.mem_cons_of_mem _ (i2 g e)
theorem length_putF (f : Str) (v : V) : ∀ fs : List (Str × V), (putF f v fs).length ≤ fs.length + 1
  | [] => by simp [putF]
  | (k, x) :: r => by
    have ih := length_putF f v r
    rw [show putF f v ((k, x) :: r) = (if k = f then (k, v) :: r else (k, x) :: putF f v r) from rfl]
    by_cases hk : k = f
    · rw [if_pos hk, List.length_cons, List.length_cons]; omega
    · rw [if_neg hk, List.length_cons, List.length_cons]; omega

theorem RelO.some_of {v : V} {o : Option Value} (r : RelO (some v) o) : ∃ u, o = some u ∧ RelV v u := by
  cases o with
  | none => exact (show False from r).elim
  | some u => exact ⟨u, rfl, r⟩
theorem handed_of {v : V} {u : Value} (r : RelV v u) : PySem.W.handedIn u = true := by
  cases v with
  | non => cases (show u = Value.none from r); rfl
  | bl b => cases (show u = Value.bool b from r); rfl
  | int i => obtain ⟨t, e⟩ := (show ∃ t, u = Value.int i t from r); cases e; rfl
  | str x => obtain ⟨t, e⟩ := (show ∃ t, u = Value.str x t from r); cases e; rfl
  | byt b => obtain ⟨t, e⟩ := (show ∃ t, u = Value.bytes b t from r); cases e; rfl
  | flt b => obtain ⟨t, e⟩ := (show ∃ t, u = Value.float b t from r); cases e; rfl
  | ref a => cases (show u = Value.ref a from r); rfl
  | ty n => cases (show u = Value.type n from r); rfl

section
variable {P : Program} {w : World} {H H' : Hp} {h h' : Heap} {a C dx : Addr} {fs fs' : List (Str × V)}
theorem ins_get (hok : HOk P w H h) (e : H a = some (.ins C dx fs)) : ∃ mA, ObjM h a dx C mA ∧ (∀ f, RelO (fs.lookup f) (mA f)) ∧ PySem.Within mA (fs.map (·.1)) ∧ fs.length ≤ 1000 ∧ H dx = some (.own a) := by
  obtain ⟨d, z, ne, ob, mA, n, r, q⟩ := (show ObjOk P w H h a (.ins C dx fs) from hok a _ e)
  exact ⟨mA, ⟨ob, n, ne⟩, r, q, z, d⟩
end

/-! ### what of the text a class must have -/
structure Cls (K : PySem.W.Frag) (C : Addr) : Prop where
  pg : PySem.W.plainGet K C Str.empty = true
  hd : PySem.W.hasDictIn K C = true
  po : PySem.W.plainOver K C = true
  sa : PySem.W.findIn K (.ref C) "__setattr__" = some (some (.builtin "object.__setattr__"))
theorem Cls.get {K : PySem.W.Frag} {C : Addr} (c : Cls K C) (f : Str) : PySem.W.plainGet K C f = true := c.pg
/-- no class of it has the name -/
def NoAttr (K : PySem.W.Frag) (C : Addr) (f : Str) : Prop := PySem.W.findIn K (.ref C) f = some none
theorem NoAttr.taker {K : PySem.W.Frag} {C : Addr} {f : Str} (n : NoAttr K C f) : PySem.W.takerIn K C f = some none := by
  unfold PySem.W.takerIn
  rw [show PySem.W.findIn K (.ref C) f = some none from n]
  rfl
/-- a constant of the class -/
structure Con (K : PySem.W.Frag) (C : Addr) (f : Str) (v : V) (u : Value) : Prop where
  at_ : PySem.W.findIn K (.ref C) f = some (some u)
  rel : RelV v u
  get : PySem.W.specialIn K u "__get__" = some none
  cp : PySem.W.copiedNames.contains f = false
/-- a method: a plain def of the class or of one above it -/
structure Meth (K : PySem.W.Frag) (C : Addr) (m : Str) (f : Addr) : Prop where
  at_ : PySem.W.findIn K (.ref C) m = some (some (.ref f))
  fn : PySem.W.isFn K (.ref f) = true
  kp : PySem.W.keepIn K (.ref f) = true

section
variable {X : Cx} {pins : List (Addr × Obj)} {σ : St} {H : Hp} {s : Shared} {a C dx : Addr} {fs : List (Str × V)} {f : Str} {v : V} {A : Around} {E : Value → Shared → Prop}

theorem getattr_ok {b : Bool} {Q : Value → Shared → Prop} (I : Inv X pins σ H s) (e : H a = some (.ins C dx fs)) (c : Cls X.K C) (n : NoAttr X.K C f) (l : fs.lookup f = some v)
    (h : ∀ u s', Inv X pins σ H s' → RelV v u → Q u s') : wpAny (model X.prog X.w) A (getAttr (.ref a) f b) Q E s := by
  obtain ⟨mA, O, r, _, _, _⟩ := ins_get I.hok e
  obtain ⟨u, hu, ru⟩ := RelO.some_of (v := v) (o := mA f) (by rw [← l]; exact r f)
  exact get_map I.kIn O (c.get f) c.hd n hu (handed_of ru) (h u _ (I.tok _) ru)

theorem setattr_ok {y : V} {u : Value} {Q : Unit → Shared → Prop} (I : Inv X pins σ H s) (e : H a = some (.ins C dx fs)) (c : Cls X.K C) (n : NoAttr X.K C f) (hl : fs.length < 1000) (ry : RelV y u)
    (h : ∀ s', Inv X pins σ (upd H a (.ins C dx (putF f y fs))) s' → Q () s') : wpAny (model X.prog X.w) A (setAttr (.ref a) f u) Q E s := by
  obtain ⟨mA, O, r, wi, _, ho⟩ := ins_get I.hok e
  have hz : (fs.map (·.1)).length ≤ sizeLine := by rw [List.length_map, sizeLine_eq]; omega
  refine set_map I.kIn O c.sa c.po n.taker c.hd wi hz fun h' O' sb => h _ ?_
  have hd : ∃ o, h'.get? dx = some o := let ⟨o, _, _, e', _⟩ := O'.ns; ⟨o, e'⟩
  refine I.write (x := a) (e := dx) (by rw [e]; exact True.intro) (.inr ho) (fun b q hb z => (sb.2 b hb).trans z) hd ?_
  refine ⟨by rw [upd_ne O.ne]; exact ho, ?_, O.ne, O'.obj, _, O'.ns, fun g => ?_, fun g hg => ?_⟩
  · have := length_putF f y fs; omega
  · show RelO ((putF f y fs).lookup g) (if g = f then some u else mA g)
    rw [lookup_putF]
    by_cases q : g = f
    · rw [if_pos q, if_pos q]; exact ry
    · rw [if_neg q, if_neg q]; exact r g
  · by_cases q : g = f
    · rw [q]; exact (keys_putF f y fs).1
    · refine (keys_putF f y fs).2 g (wi g fun z => hg ?_)
      show (if g = f then some u else mA g) = none
      rw [if_neg q]; exact z

/-- a new instance, tracked, without attributes -/
theorem Inv.made (I : Inv X pins σ H s) : Inv X pins σ (upd (upd H s.heap.objs.size (.own (s.heap.objs.size + 1))) (s.heap.objs.size + 1) (.ins C s.heap.objs.size []))
    { s with heap := (s.heap.push PySem.W.emptyDict).push (PySem.W.instObj C s.heap.objs.size) } := by
  have e1 : (s.heap.push PySem.W.emptyDict).get? s.heap.objs.size = some PySem.W.emptyDict := Heap.get?_push_size s.heap rfl
  have e2 : ((s.heap.push PySem.W.emptyDict).push (PySem.W.instObj C s.heap.objs.size)).get? (s.heap.objs.size + 1) = some (PySem.W.instObj C s.heap.objs.size) := by
    have := Heap.get?_push_size (s.heap.push PySem.W.emptyDict) (o := PySem.W.instObj C s.heap.objs.size) rfl
    rwa [Heap.size_push] at this
  have e3 : (s.heap.push PySem.W.emptyDict).Ns s.heap.objs.size (fun _ => none) := ⟨PySem.W.emptyDict, #[], _, e1, rfl, (fun e he => absurd he (by simp)), fun _ => rfl⟩
  have I1 := I.laid (a := s.heap.objs.size) (o := .own (s.heap.objs.size + 1)) (h' := s.heap.push PySem.W.emptyDict) (t' := s.toks) (fun b u q => Heap.get?_push_of_some _ q) (Nat.le_refl _) ⟨_, e1⟩
  refine I1.laid (a := s.heap.objs.size + 1) (o := .ins C s.heap.objs.size []) (t' := s.toks) (fun b u q => Heap.get?_push_of_some _ q) (Nat.le_of_eq (Heap.size_push _ _)) ?_
  have ne : s.heap.objs.size ≠ s.heap.objs.size + 1 := Nat.ne_of_lt (Nat.lt_succ_self _)
  refine ⟨by rw [upd_ne ne, upd_same], Nat.zero_le _, ne, e2, fun _ => none, (Heap.Ns1.of_empty e3).at fun o q => Heap.get?_push_of_some _ q, fun _ => True.intro, fun y hy => absurd rfl hy⟩

/-- e.f where nothing but the object is asked: through attributeBase (super) and the last hold -/
theorem attr_of {prog : Program} {w : World} {env : Env} {e : Expr} {f : Str} {pos : Pos} {s : Shared} {Q : Value → Shared → Prop} (hb : attributeBase e f env (eval e env) = eval e env)
    (h : wpAny (model prog w) A (eval e env) (fun o s₁ => wpAny (model prog w) A (getAttr o f true) Q E s₁) E s) : wpAny (model prog w) A (eval (.Attribute e f pos) env) Q E s :=
  Attribute_any_ h (by rw [arm_eval_Attribute, hb])
end

/-! ### readings and rules -/
/-- e.f, an attribute of the instance -/
def tFld (K : PySem.W.Frag) (ta : TE) (f : Str) : TE := fun σ H Q => ta σ H fun x H1 => ∃ a C dx fs v, x = .ref a ∧ H1 a = some (.ins C dx fs) ∧ Cls K C ∧ NoAttr K C f ∧ fs.lookup f = some v ∧ Q v H1
/-- e.f = value -/
def sFld (K : PySem.W.Frag) (ta tv : TE) (f : Str) : TS := fun D σ H => tv σ H fun y H1 => ta σ H1 fun x H2 => ∃ a C dx fs, x = .ref a ∧ H2 a = some (.ins C dx fs) ∧ Cls K C ∧ NoAttr K C f ∧ fs.length < 1000 ∧
  D.nx σ (upd H2 a (.ins C dx (putF f y fs)))
/-- an augmented operator on two values -/
def InOp (X : Cx) (op : Operator) (rd : V → V → Hp → VK → Prop) : Prop :=
  ∀ (pins : List (Addr × Obj)) (s : Shared) (σ : St) (H : Hp) (x y : V) (u v : Value) (Q : VK), Inv X pins σ H s → RelV x u → RelV y v → rd x y H Q → wpAny (model X.prog X.w) X.A (inplaceOp op u v) (EP X pins σ Q) X.xe s
/-- e.f op= value -/
def sFldAug (K : PySem.W.Frag) (ta tv : TE) (rd : V → V → Hp → VK → Prop) (f : Str) : TS := fun D σ H => ta σ H fun x H1 => ∃ a C dx fs v, x = .ref a ∧ H1 a = some (.ins C dx fs) ∧ Cls K C ∧ NoAttr K C f ∧ fs.lookup f = some v ∧
  tv σ H1 fun y H2 => rd v y H2 fun z H3 => ∃ dx' fs', H3 a = some (.ins C dx' fs') ∧ fs'.length < 1000 ∧ D.nx σ (upd H3 a (.ins C dx' (putF f z fs')))

section
variable {X : Cx} {o e value : Expr} {f : Str} {pos pos' tpos : Pos} {ta tv : TE}
theorem pe_fld (he : PE X e ta) (hb : attributeBase e f X.env (eval e X.env) = eval e X.env) : PE X (.Attribute e f pos) (tFld X.K ta f) := by
  intro pins s σ H Q I h
  refine attr_of hb (thn (he pins s σ H _ I h) fun u s1 ⟨x, H1, I1, rx, a, C, dx, fs, v, ex, ea, c, n, l, q⟩ => ?_)
  subst ex
  obtain rfl : u = Value.ref a := rx
  exact getattr_ok I1 ea c n l fun u' s2 I2 ru => ⟨v, H1, I2, ru, q⟩
theorem ps_fld (ha : PE X o ta) (hv : PE X value tv) (hs : swapsWith value (some (.Attribute o f pos')) pos.line X.env = pure false) : PS X (.Assign [.Attribute o f pos'] value pos) (sFld X.K ta tv f) := by
  intro pins s σ H D I h
  refine plainObj_wpAny_Assign_Attribute (thn (hv pins s σ H _ I h) fun u s1 ⟨y, H1, I1, ry, q⟩ => thn (ha pins s1 σ H1 _ I1 q) fun ov s2 ⟨x, H2, I2, rx, a, C, dx, fs, ex, ea, c, n, l, q2⟩ => ?_) hs
  subst ex
  obtain rfl : ov = Value.ref a := rx
  exact setattr_ok I2 ea c n l ry fun s3 I3 => ⟨σ, _, I3, q2⟩
theorem ps_fldaug {op : Operator} {rd : V → V → Hp → VK → Prop} (ha : PE X o ta) (hv : PE X value tv) (hop : InOp X op rd) : PS X (.AugAssign (.Attribute o f tpos) op value pos) (sFldAug X.K ta tv rd f) := by
  intro pins s σ H D I h
  refine wpAny_AugAssign_AttributeAny (thn (ha pins s σ H _ I h) fun ov s1 ⟨x, H1, I1, rx, a, C, dx, fs, v, ex, ea, c, n, l, q⟩ => ?_)
  subst ex
  obtain rfl : ov = Value.ref a := rx
  refine getattr_ok I1 ea c n l fun u s2 I2 ru => thn (hv pins s2 σ H1 _ I2 q) fun w3 s3 ⟨y, H2, I3, ry, q3⟩ => thn (hop pins s3 σ H2 v y u w3 _ I3 ru ry q3) fun w4 s4 ⟨z, H3, I4, rz, dx', fs', ea', l', q4⟩ => ?_
  exact setattr_ok I4 ea' c n l' rz fun s5 I5 => ⟨σ, _, I5, q4⟩
def rAdd : V → V → Hp → VK → Prop := fun x y H Q => ∃ i j, x = .int i ∧ y = .int j ∧ Q (.int (i + j)) H
theorem in_add : InOp X .Add rAdd := by
  rintro pins s σ H x y u v Q I rx ry ⟨i, j, rfl, rfl, q⟩
  obtain ⟨t, rfl⟩ := (show ∃ t, u = Value.int i t from rx)
  obtain ⟨t', rfl⟩ := (show ∃ t', v = Value.int j t' from ry)
  exact PyProof.Rows.iadd_int ⟨.int (i + j), H, I.tok _, ⟨_, rfl⟩, q⟩
end

/-! ### isinstance -/
section
variable {X : Cx} {pins : List (Addr × Obj)} {σ : St} {H : Hp} {s : Shared} {A : Around} {E : Value → Shared → Prop} {Q : Value → Shared → Prop} {c : Value} {b : Bool}
/-- the type of a value, as the fragment's deciders take it; for an instance its class -/
inductive TyOf (K : PySem.W.Frag) (H : Hp) : V → Value → Prop where
  | non : TyOf K H .non (.type "NoneType")
  | bl (x : Bool) : TyOf K H (.bl x) (.type "bool")
  | int (i : Int) : TyOf K H (.int i) (.type "int")
  | str (x : Str) : TyOf K H (.str x) (.type "str")
  | flt (x : UInt64) : TyOf K H (.flt x) (.type "float")
  | lst {a : Addr} {xs : List V} (e : H a = some (.lst xs)) : TyOf K H (.ref a) (.type "list")
  | frz {a : Addr} {o : Obj} {xs : List V} (e : H a = some (.frz o (.lst xs))) : TyOf K H (.ref a) (.type "list")
  | tup {a : Addr} {xs : List V} (e : H a = some (.tup xs)) : TyOf K H (.ref a) (.type "tuple")
  | dK {a : Addr} {kvs : List (Key × V)} (e : H a = some (.dK kvs)) : TyOf K H (.ref a) (.type "dict")
  | dT {a : Addr} {kvs : List (List Key × V)} (e : H a = some (.dT kvs)) : TyOf K H (.ref a) (.type "dict")
  | ins {a C dx : Addr} {fs : List (Str × V)} (e : H a = some (.ins C dx fs)) (cl : Cls K C) (ha : PySem.W.findIn K (.ref C) "__class__" = some (some (.builtin "object.__class__")))
      (hn : PySem.W.specialIn K (.builtin "object.__class__") "__get__" = some (some (.builtin "getset_descriptor.__get__"))) (htk : PySem.W.takesIn K (.builtin "object.__class__") = some true)
      (hm : PySem.W.mroIn K C (.type "object") = some true) : TyOf K H (.ref a) (.ref C)
/-- isinstance(x, c) for one class c, a built-in or an own one: kitOne's answer -/
theorem isinst_ok {x : V} {u t : Value} (I : Inv X pins σ H s) (rx : RelV x u) (ty : TyOf X.K H x t) (e : PySem.W.kitOne X.K t c = some b) (h : ∀ tk, Q (.bool b) { s with toks := tk }) :
    wpAny (model X.prog X.w) A (call (.builtin "isinstance") [u, c]) Q E s := by
  cases ty with
  | non => cases (show u = Value.none from rx); exact PySem.W.kia_one PySem.W.kitx_none I.kIn True.intro e (fun z => nomatch z) h
  | bl y => cases (show u = Value.bool y from rx); exact PySem.W.kia_one PySem.W.kitx_bool I.kIn True.intro e (fun z => nomatch z) h
  | int i => obtain ⟨t, q⟩ := (show ∃ t, u = Value.int i t from rx); cases q; exact PySem.W.kia_one PySem.W.kitx_int I.kIn True.intro e (fun z => nomatch z) h
  | str y => obtain ⟨t, q⟩ := (show ∃ t, u = Value.str y t from rx); cases q; exact PySem.W.kia_one PySem.W.kitx_str I.kIn True.intro e (fun z => nomatch z) h
  | flt y => obtain ⟨t, q⟩ := (show ∃ t, u = Value.float y t from rx); cases q; exact PySem.W.kia_one PySem.W.kitx_float I.kIn True.intro e (fun z => nomatch z) h
  | @lst a xs ea =>
    cases (show u = Value.ref a from rx)
    obtain ⟨_, _, n, _, h1⟩ := (show ObjOk X.prog X.w H s.heap a (.lst xs) from I.hok a _ ea)
    exact PySem.W.kia_one PySem.W.kitx_list I.kIn ⟨_, h1, rfl⟩ e (fun z => nomatch z) h
  | @frz a ob xs ea =>
    cases (show u = Value.ref a from rx)
    obtain ⟨_, _, _, n, _, h1⟩ := (show ObjOk X.prog X.w H s.heap a (.frz ob (.lst xs)) from I.hok a _ ea)
    exact PySem.W.kia_one PySem.W.kitx_list I.kIn ⟨_, h1, rfl⟩ e (fun z => nomatch z) h
  | @tup a xs ea =>
    cases (show u = Value.ref a from rx)
    obtain ⟨_, _, _, p⟩ := (show ObjOk X.prog X.w H s.heap a (.tup xs) from I.hok a _ ea)
    obtain ⟨o, h1, h2, _⟩ := p
    exact PySem.W.kia_one PySem.W.kitx_tuple I.kIn ⟨o, h1, h2⟩ e (fun z => nomatch z) h
  | @dK a kvs ea =>
    cases (show u = Value.ref a from rx)
    obtain ⟨_, _, vs, _, p⟩ := (show ObjOk X.prog X.w H s.heap a (.dK kvs) from I.hok a _ ea)
    obtain ⟨o, es, ep, h1, h2, _⟩ := p
    exact PySem.W.kia_one PySem.W.kitx_dict I.kIn ⟨o, h1, h2.1⟩ e (fun z => nomatch z) h
  | @dT a kvs ea =>
    cases (show u = Value.ref a from rx)
    obtain ⟨_, _, xs, _, o, es, ep, h1, h2, _⟩ := (show ObjOk X.prog X.w H s.heap a (.dT kvs) from I.hok a _ ea)
    exact PySem.W.kia_one PySem.W.kitx_dict I.kIn ⟨o, h1, h2.1⟩ e (fun z => nomatch z) h
  | @ins a C dx fs ea cl ha hn htk hm =>
    cases (show u = Value.ref a from rx)
    obtain ⟨mA, O, _⟩ := ins_get I.hok ea
    obtain ⟨od, J, _⟩ := O.look
    exact PySem.W.kia_one (PySem.W.kitx_own (cl.get _) cl.hd ha hn htk hm) I.kIn J e (fun z => nomatch z) h
end
end L2

namespace L2
open PySem PySem.Spec PyProof.Rows

/-! ### room -/
structure Room (k : Nat) (A : Around) : Prop where
  hd : A.handled = none
  dp : A.depth + 3 * k + 5 < recursionLimit
  un : A.units + 16 * k + 200 < cLine
theorem Room.mono {j k : Nat} {A : Around} (r : Room k A) (h : j ≤ k) : Room j A := ⟨r.hd, by have := r.dp; omega, by have := r.un; omega⟩
theorem Room.deeper {k : Nat} {A : Around} (r : Room (k + 1) A) (env : Env) : Room k (A.deeper env) :=
  ⟨r.hd, by have := r.dp; show A.depth + 1 + 3 * k + 5 < _; omega, by have := r.un; show A.units + 3 + 16 * k + 200 < _; omega⟩
theorem make_depth {A : Around} {C : Addr} {us : List Value} {kw : List (Str × Value)} : (A.under (.builtin "type.__call__" ⟨.ref C :: us, kw⟩)).depth = A.depth + 1 := by
  first | rfl | simp [Around.under, Code.weight, Code.isCreation, Code.isGuard, Code.isCaller, Code.frames, Code.isFrame, guardIds]
theorem make_units {A : Around} {C : Addr} {us : List Value} {kw : List (Str × Value)} : (A.under (.builtin "type.__call__" ⟨.ref C :: us, kw⟩)).units = A.units + 1 := by
  first | rfl | simp [Around.under, Code.cUnits, Code.frames, Code.isFrame]
theorem Room.make {k : Nat} {A : Around} (r : Room (k + 1) A) (C : Addr) (us : List Value) (kw : List (Str × Value)) : Room k (A.under (.builtin "type.__call__" ⟨.ref C :: us, kw⟩)) :=
  ⟨r.hd, by have := r.dp; rw [make_depth]; omega, by have := r.un; rw [make_units]; omega⟩
theorem Room.depth {k : Nat} {A : Around} (r : Room k A) : A.depth < recursionLimit := by have := r.dp; omega
theorem Room.units {k : Nat} {A : Around} (r : Room k A) : A.units + 64 < cLine := by have := r.un; omega
/-! ### argument lists and displays -/
def tNil : TA := fun _ H Q => Q [] H
def tCons (ta : TE) (tr : TA) : TA := fun σ H Q => ta σ H fun x H1 => tr σ H1 fun xs H2 => Q (x :: xs) H2
section
variable {X : Cx} {e : Expr} {es : List Expr} {te : TE} {t : TA} {pos : Pos}
theorem pa_nil : PA X [] tNil := fun _ _ _ _ H Q I h => Calls.spliced_nil ⟨[], H, I, .nil, h⟩
theorem pa_cons (ha : PE X e te) (hr : PA X es t) (hs : starEach (e :: es) X.env = (false, eval e X.env) :: starEach es X.env := by rfl) : PA X (e :: es) (tCons te t) := by
  intro pos pins s σ H Q I h
  rw [hs]
  show wpAny _ _ (spliced ((false, eval e X.env) :: backTo pos (starEach es X.env))) _ _ s
  refine Calls.spliced_cons (thn (ha pins s σ H _ I h) fun u s1 ⟨x, H1, I1, r1, q1⟩ => ?_)
  exact thn (hr pos pins s1 σ H1 _ I1 q1) fun us s2 ⟨xs, H2, I2, r2, q2⟩ => ⟨x :: xs, H2, I2, .cons r1 r2, q2⟩

def tLst (t : TA) : TE := fun σ H Q => t σ H fun xs H1 => xs.length ≤ sizeLine ∧ ∀ p, H1 p = none → Q (.ref p) (upd H1 p (.lst xs))
theorem pe_lst (h : PA X es t) : PE X (.List es pos) (tLst t) := by
  intro pins s σ H Q I hq
  refine wpAny_List_spliced (thn (h pos pins s σ H _ I hq) fun us s1 ⟨xs, H1, I1, r, z, q⟩ => ⟨by rw [← r.length]; exact z, ?_⟩)
  have hf : H1 s1.heap.objs.size = none := I1.hok.fresh (Nat.le_refl _)
  refine ⟨.ref s1.heap.objs.size, upd H1 s1.heap.objs.size (.lst xs), I1.laid (t' := s1.toks) (fun b u e => Heap.get?_push_of_some _ e) (Nat.le_refl _) ?_, rfl, q _ hf⟩
  exact ⟨z, us, 0, r, Heap.get?_push_size _ rfl⟩
end

/-! ### what a def promises -/
/-- a def's promise: the bound arguments in the parameters' order, the heap, the wanted end, the wanted exception -/
abbrev Sp := List V → Hp → VK → XK → Prop
/-- how an exception lies behind a call (file 08 gives it): the callers' frames, abstract heap and state ahead of the call, the wish, the exception, the state -/
abbrev CXT := List Env → Hp → Shared → XK → Value → Shared → Prop

/-- the state at a call -/
structure Env0 (P : Program) (w : World) (K : PySem.W.Frag) (mg : Str → Option Value) (base : Heap) (A : Around) (outer : List Env) (s : Shared) (H : Hp) : Prop where
  frames : A.frames = some outer
  mod : Mod K mg base
  bs : ∀ b o, base.get? b = some o → s.heap.get? b = some o ∧ H b = none
  bsz : base.objs.size ≤ s.heap.objs.size
  funs : s.heap.FunFrames base outer
  frf : ∀ b ∈ frs outer, H b = none
  hok : HOk P w H s.heap
  bare : AllBare s.gens
/-- a call's end -/
def CE (outer : List Env) (P : Program) (w : World) (H : Hp) (s : Shared) (Q : VK) (u : Value) (s' : Shared) : Prop :=
  ∃ v H', s'.os = s.os ∧ AllBare s'.gens ∧ Un (frs outer) [] H H' s.heap s'.heap ∧ HOk P w H' s'.heap ∧ RelV v u ∧ Q v H'
def CR (CX : CXT) (outer : List Env) (P : Program) (w : World) (H : Hp) (s : Shared) (Q : VK) (E : XK) (r : Result) (s' : Shared) : Prop :=
  match r with
  | .ok (.ret u) => CE outer P w H s Q u s'
  | .ok _ => False
  | .error e => CX outer H s E e s'
structure FnOk (P : Program) (w : World) (K : PySem.W.Frag) (mg : Str → Option Value) (base : Heap) (CX : CXT) (k : Nat) (f : Addr) (fd : FuncData) (ps : List Str) (sp : Sp) : Prop where
  len : ∀ vs H Q E, sp vs H Q E → vs.length = ps.length
  run : ∀ (A : Around) (outer : List Env) (s : Shared) (H : Hp) (args : Args) (us : List Value) (vs : List V) (Q : VK) (E : XK), Room k A → Env0 P w K mg base A outer s H → BindsTo s fd args (ps.zip us) → Vals vs us → sp vs H Q E →
    codeAny (model P w) A (.call (.ref f) args) (CR CX outer P w H s Q E) s
theorem FnOk.mono {P : Program} {w : World} {K : PySem.W.Frag} {mg : Str → Option Value} {base : Heap} {CX : CXT} {j k : Nat} {f : Addr} {fd : FuncData} {ps : List Str} {sp : Sp} (F : FnOk P w K mg base CX j f fd ps sp) (h : j ≤ k) :
    FnOk P w K mg base CX k f fd ps sp := ⟨F.len, fun A outer s H args us vs Q E hr => F.run A outer s H args us vs Q E (hr.mono h)⟩
theorem Env0.make {P : Program} {w : World} {K : PySem.W.Frag} {mg : Str → Option Value} {base : Heap} {A : Around} {outer : List Env} {s : Shared} {H : Hp} (e : Env0 P w K mg base A outer s H) (C : Addr) (us : List Value) (kw : List (Str × Value)) :
    Env0 P w K mg base (A.under (.builtin "type.__call__" ⟨.ref C :: us, kw⟩)) outer s H := ⟨by first | exact e.frames | (simpa [Around.under, Code.envs, Code.isFrame, pushEnvs] using e.frames), e.mod, e.bs, e.bsz, e.funs, e.frf, e.hok, e.bare⟩
section
variable {X : Cx} {pins : List (Addr × Obj)} {σ : St} {H : Hp} {s s' : Shared}
/-- from a body: what a callee wants -/
theorem Inv.env0 (I : Inv X pins σ H s) : Env0 X.prog X.w X.K X.mg X.base X.A X.stack s H :=
  ⟨I.ok.frames, I.ok.mod, I.bs, Nat.le_trans I.ok.bsz I.sz, I.stack, I.stkFree, I.hok, I.bare⟩
/-- behind a call -/
theorem Inv.after {Q : VK} {u : Value} (I : Inv X pins σ H s) (h : CE X.stack X.prog X.w H s Q u s') : EP X pins σ Q u s' := by
  obtain ⟨v, H', os, bare, un, hok, r, q⟩ := h
  obtain ⟨hh, g, d, t, os'⟩ := s'
  obtain rfl : os' = s.os := os
  exact ⟨v, H', I.call (h' := hh) (g' := g) (d' := d) (t' := t) (ch := []) un hok bare (fun b z => absurd z (by simp)), r, q⟩
end

/-! ### calls -/
/-- f(..): the written arguments, then the defaults dvs; E: what is wanted of an exception -/
def tCall (sp : Sp) (dvs : List V) (E : XK) (t : TA) : TE := fun σ H Q => t σ H fun vs H1 => sp (vs ++ dvs) H1 Q E
/-- C(..): a new instance and its dict, then __init__ -/
def tMake (C : Addr) (sp : Sp) (dvs : List V) (E : XK) (t : TA) : TE := fun σ H Q => t σ H fun vs H1 => ∀ x dx, H1 x = none → H1 dx = none → dx ≠ x →
  sp (.ref x :: (vs ++ dvs)) (upd (upd H1 dx (.own x)) x (.ins C dx [])) (fun v H2 => v = .non ∧ Q (.ref x) H2) E

/-- how the parameters are bound: us the positional arguments, kw the keywords' values by name, ds the defaults that fill up -/
def Binds (K : PySem.W.Frag) (fd : FuncData) (ps : List Str) (ds : List Value) : Prop :=
  ∀ (s : Shared) (us : List Value), K.In s.heap → (us ++ ds).length = ps.length → BindsTo s fd ⟨us, []⟩ (ps.zip (us ++ ds))
/-- every parameter is given -/
theorem Binds.all {K : PySem.W.Frag} {fd : FuncData} {ps : List Str} (h : ∀ us : List Value, us.length = ps.length → bindArgs fd ⟨us, []⟩ = pure (ps.zip us)) : Binds K fd ps [] := fun s us _ hl => by
  rw [List.append_nil] at hl ⊢
  exact .of_eq (h us hl)

/-- an exception of a callee reaches what this body wants of exceptions -/
def Passes (CX : CXT) (X : Cx) (E : XK) : Prop := ∀ (pins : List (Addr × Obj)) (σ : St) (H : Hp) (s : Shared) (e : Value) (s' : Shared), Inv X pins σ H s → CX X.stack H s E e s' → X.xe e s'

section
variable {X : Cx} {CX : CXT} {k : Nat} {f C : Addr} {fd : FuncData} {ps : List Str} {sp : Sp} {dvs : List V} {ds : List Value} {E : XK} {x m : Str} {p pos apos : Pos} {e o : Expr} {es : List Expr} {ta : TE} {t : TA}

/-- the callee runs -/
theorem run_fn {pins : List (Addr × Obj)} {σ : St} {H : Hp} {s : Shared} {Q : VK} {us : List Value} {vs : List V} (F : FnOk X.prog X.w X.K X.mg X.base CX k f fd ps sp) (hr : Room k X.A) (hb : Binds X.K fd ps ds) (hd : Vals dvs ds) (hx : Passes CX X E)
    (I : Inv X pins σ H s) (r : Vals vs us) (h : sp (vs ++ dvs) H Q E) : wpAny (model X.prog X.w) X.A (call (.ref f) us) (EP X pins σ Q) X.xe s := by
  have r2 : Vals (vs ++ dvs) (us ++ ds) := r.append hd
  have hl : (us ++ ds).length = ps.length := by rw [← r2.length]; exact F.len _ _ _ _ h
  refine wpAny_call (codeAny_mono (F.run X.A X.stack s H ⟨us, []⟩ (us ++ ds) (vs ++ dvs) Q E hr I.env0 (hb s us I.kIn hl) r2 h) fun r s' hq => ?_)
  cases r with
  | error e => exact hx pins σ H s e s' I hq
  | ok fl =>
    cases fl with
    | ret u => exact I.after hq
    | next => exact False.elim hq
    | brk => exact False.elim hq
    | cont => exact False.elim hq

theorem pe_call (F : FnOk X.prog X.w X.K X.mg X.base CX k f fd ps sp) (hr : Room k X.A) (hg : Gl X x) (hm : X.mg x = some (.ref f)) (hk : PySem.W.keepIn X.K (.ref f) = true) (hb : Binds X.K fd ps ds) (hd : Vals dvs ds) (hx : Passes CX X E)
    (ha : PA X (e :: es) t) (hdb : (x == ("__debug__" : Str)) = false := by decide) (he : starEach (e :: es) X.env = (false, eval e X.env) :: starEach es X.env := by rfl) (hpl : (backTo pos (starEach es X.env)).any (·.1) = false := by rfl) :
    PE X (.Call (.Name x p) (e :: es) [] pos) (tCall sp dvs E t) := by
  intro pins s σ H Q I h
  refine wpAny_Call_Name_kw (ld_glob I hg hm ?_ hdb)
  refine PySem.W.callWith_K (h₀ := X.base) I.ok.mod.kin hk (thn (ha pos pins s σ H _ I h) fun us s1 ⟨vs, H1, I1, r, q⟩ => ⟨I1.kIn, ?_⟩) he hpl
  exact run_fn F hr hb hd hx I1 r q
/-- what a class must have to be made -/
structure Mk (K : PySem.W.Frag) (C f : Addr) : Prop where
  makes : PySem.W.makesIn K C = true
  init : PySem.W.findIn K (.ref C) "__init__" = some (some (.ref f))
  fn : PySem.W.isFn K (.ref f) = true
  kp : PySem.W.keepIn K (.ref C) = true

theorem run_make {pins : List (Addr × Obj)} {σ : St} {H : Hp} {s : Shared} {Q : VK} {us : List Value} {vs : List V} (M : Mk X.K C f) (F : FnOk X.prog X.w X.K X.mg X.base CX k f fd ps sp) (hr : Room (k + 1) X.A) (hb : Binds X.K fd ps ds) (hd : Vals dvs ds)
    (hx : Passes CX X E) (I : Inv X pins σ H s) (r : Vals vs us)
    (h : ∀ x dx, H x = none → H dx = none → dx ≠ x → sp (.ref x :: (vs ++ dvs)) (upd (upd H dx (.own x)) x (.ins C dx [])) (fun v H2 => v = .non ∧ Q (.ref x) H2) E) :
    wpAny (model X.prog X.w) X.A (call (.ref C) us) (EP X pins σ Q) X.xe s := by
  have hq := h (s.heap.objs.size + 1) s.heap.objs.size (I.hok.fresh (Nat.le_succ _)) (I.hok.fresh (Nat.le_refl _)) (Nat.ne_of_lt (Nat.lt_succ_self _))
  have I2 := Inv.made (C := C) I
  have r2 : Vals (V.ref (s.heap.objs.size + 1) :: (vs ++ dvs)) (Value.ref (s.heap.objs.size + 1) :: (us ++ ds)) := .cons rfl (r.append hd)
  have hl : (Value.ref (s.heap.objs.size + 1) :: us ++ ds).length = ps.length := by
    have e := r2.length
    rw [F.len _ _ _ _ hq] at e
    exact e.symm
  refine wpAny_call (make_map (f := f) I.kIn M.makes M.init (beq_iff_eq.mp M.fn) (codeAny_mono (F.run _ X.stack _ _ ⟨Value.ref (s.heap.objs.size + 1) :: us, []⟩ (Value.ref (s.heap.objs.size + 1) :: (us ++ ds)) _ _ E (hr.make C us [])
    (I2.env0.make C us []) (hb _ (Value.ref (s.heap.objs.size + 1) :: us) I2.kIn hl) r2 hq) fun r s' hq' => ?_))
  cases r with
  | error e => exact hx pins σ _ _ e s' I2 hq'
  | ok fl =>
    cases fl with
    | ret u =>
      obtain ⟨v, H', I3, rv, ev, q3⟩ := I2.after hq'
      subst ev
      exact ⟨rv, ⟨V.ref (s.heap.objs.size + 1), H', I3, rfl, q3⟩⟩
    | next => exact False.elim hq'
    | brk => exact False.elim hq'
    | cont => exact False.elim hq'
theorem pe_make (M : Mk X.K C f) (F : FnOk X.prog X.w X.K X.mg X.base CX k f fd ps sp) (hr : Room (k + 1) X.A) (hg : Gl X x) (hm : X.mg x = some (.ref C)) (hb : Binds X.K fd ps ds) (hd : Vals dvs ds) (hx : Passes CX X E)
    (ha : PA X (e :: es) t) (hdb : (x == ("__debug__" : Str)) = false := by decide) (he : starEach (e :: es) X.env = (false, eval e X.env) :: starEach es X.env := by rfl) (hpl : (backTo pos (starEach es X.env)).any (·.1) = false := by rfl) :
    PE X (.Call (.Name x p) (e :: es) [] pos) (tMake C sp dvs E t) := by
  intro pins s σ H Q I h
  refine wpAny_Call_Name_kw (ld_glob I hg hm ?_ hdb)
  refine PySem.W.callWith_K (h₀ := X.base) I.ok.mod.kin M.kp (thn (ha pos pins s σ H _ I h) fun us s1 ⟨vs, H1, I1, r, q⟩ => ⟨I1.kIn, ?_⟩) he hpl
  exact run_make M F hr hb hd hx I1 r q
theorem pe_make0 (M : Mk X.K C f) (F : FnOk X.prog X.w X.K X.mg X.base CX k f fd ps sp) (hr : Room (k + 1) X.A) (hg : Gl X x) (hm : X.mg x = some (.ref C)) (hb : Binds X.K fd ps ds) (hd : Vals dvs ds) (hx : Passes CX X E)
    (hdb : (x == ("__debug__" : Str)) = false := by decide) : PE X (.Call (.Name x p) [] [] pos) (tMake C sp dvs E tNil) := by
  intro pins s σ H Q I h
  refine wpAny_Call_Name_kw (ld_glob I hg hm ?_ hdb)
  exact PySem.W.callWith_K0 I.kIn M.kp (run_make (us := []) M F hr hb hd hx I .nil h)
end

/-! ### keywords -/
section
variable {X : Cx} {CX : CXT} {k : Nat} {f C : Addr} {fd : FuncData} {ps ks : List Str} {sp : Sp} {E : XK} {x m : Str} {p pos apos kpos : Pos} {e o : Expr} {es : List Expr} {kws : List Keyword} {te ta : TE} {t tk : TA} {nm : Option Str}
/-- how a call with keywords binds: g puts the positional values us and the keywords' values ws (names ks) in the parameters' order, defaults among them -/
structure KBinds (K : PySem.W.Frag) (fd : FuncData) (ps ks : List Str) (g : List Value → List Value → List Value) (gV : List V → List V → List V) : Prop where
  to : ∀ (s : Shared) (us ws : List Value), K.In s.heap → (g us ws).length = ps.length → BindsTo s fd ⟨us, ks.zip ws⟩ (ps.zip (g us ws))
  rel : ∀ {vs : List V} {us : List Value} {zs : List V} {ws : List Value}, Vals vs us → Vals zs ws → Vals (gV vs zs) (g us ws)
variable {g : List Value → List Value → List Value} {gV : List V → List V → List V}
end

/-! ### a def's body keeps its promise -/
/-- names: the parameters first -/
structure FnScope (N P : List Str) (sc : Scope) : Prop where
  kind : sc.kind = .function
  co : sc.isCoroutine = false
  gen : sc.isGenerator = false
  nd : N.Nodup
  pre : N.take P.length = P
  par : ∀ x ∈ P, sc.names.lookup x = some .local ∨ sc.names.lookup x = some .cell
  nofree : ∀ y ∈ sc.names, y.2 ≠ .free

theorem bindL_out {kindOf : Str → Option NameKind} {x : Str} : ∀ {binds : List (Str × Value)} {m : Str → Option Value}, (∀ v, (x, v) ∉ binds) → bindL kindOf binds m x = m x
  | [], _, _ => rfl
  | (n, v) :: r, m, h => by
    unfold bindL
    rw [bindL_out fun w hw => h w (List.mem_cons_of_mem _ hw)]
    split
    · have : x ≠ n := by rintro rfl; exact h v List.mem_cons_self
      simp [this]
    · rfl
theorem bindC_out {kindOf : Str → Option NameKind} {x : Str} : ∀ {binds : List (Str × Value)} {m : Str → Option Value}, (∀ v, (x, v) ∉ binds) → bindC kindOf binds m x = m x
  | [], _, _ => rfl
  | (n, v) :: r, m, h => by
    unfold bindC
    rw [bindC_out fun w hw => h w (List.mem_cons_of_mem _ hw)]
    split
    · rfl
    · have : x ≠ n := by rintro rfl; exact h v List.mem_cons_self
      simp [this]
theorem bindL_get {kindOf : Str → Option NameKind} {x : Str} {v : Value} : ∀ {P : List Str} {vs : List Value} {i : Nat} {m : Str → Option Value}, P.Nodup → P[i]? = some x → vs[i]? = some v → kindOf x = some .local →
    bindL kindOf (P.zip vs) m x = some v
  | [], _, _, _, _, h, _, _ => by simp at h
  | _ :: _, [], _, _, _, _, h, _ => by simp at h
  | p :: P, w :: vs, 0, m, nd, h1, h2, hk => by
    simp at h1 h2; subst h1; subst h2
    show bindL kindOf ((p, w) :: P.zip vs) m p = _
    unfold bindL
    rw [bindL_out fun v hv => (List.nodup_cons.mp nd).1 (List.of_mem_zip hv).1, if_pos hk]
    simp
  | p :: P, w :: vs, i + 1, m, nd, h1, h2, hk => by
    show bindL kindOf ((p, w) :: P.zip vs) m x = _
    unfold bindL
    exact bindL_get (i := i) (List.nodup_cons.mp nd).2 (by simpa using h1) (by simpa using h2) hk
theorem bindC_get {kindOf : Str → Option NameKind} {x : Str} {v : Value} : ∀ {P : List Str} {vs : List Value} {i : Nat} {m : Str → Option Value}, P.Nodup → P[i]? = some x → vs[i]? = some v → kindOf x ≠ some .local →
    bindC kindOf (P.zip vs) m x = some v
  | [], _, _, _, _, h, _, _ => by simp at h
  | _ :: _, [], _, _, _, _, h, _ => by simp at h
  | p :: P, w :: vs, 0, m, nd, h1, h2, hk => by
    simp at h1 h2; subst h1; subst h2
    show bindC kindOf ((p, w) :: P.zip vs) m p = _
    unfold bindC
    rw [bindC_out fun v hv => (List.nodup_cons.mp nd).1 (List.of_mem_zip hv).1, if_neg hk]
    simp
  | p :: P, w :: vs, i + 1, m, nd, h1, h2, hk => by
    show bindC kindOf ((p, w) :: P.zip vs) m x = _
    unfold bindC
    exact bindC_get (i := i) (List.nodup_cons.mp nd).2 (by simpa using h1) (by simpa using h2) hk

/-- the names' values at the entry -/
def start (N : List Str) (vs : List V) : St := vs.map some ++ List.replicate (N.length - vs.length) none

/-- the context of a def's body, at its entry; an exception leaves the frame, then lies as CX says -/
def cxOf (CX : CXT) (P : Program) (w : World) (K : PySem.W.Frag) (mg : Str → Option Value) (base : Heap) (N : List Str) (qual : Str) (scope : Scope) (f : Addr) (cd : Value) (A : Around) (outer : List Env) (s : Shared) (H : Hp) (E : XK) : Cx where
  prog := P
  w := w
  K := K
  mg := mg
  base := base
  A := A.deeper (envOfC qual scope s.heap.objs.size f cd)
  N := N
  s_0 := s
  H_0 := H
  env := envOfC qual scope s.heap.objs.size f cd
  outer := outer
  stack := envOfC qual scope s.heap.objs.size f cd :: outer
  ex := []
  calm := true
  fn := fun _ => true
  pn := []
  xe := fun e s' => wpAny (model P w) (A.deeper (envOfC qual scope s.heap.objs.size f cd)) (leaving (envOfC qual scope s.heap.objs.size f cd) e) (fun _ s'' => CX outer H s E e s'') (fun e' s'' => CX outer H s E e' s'') s'

theorem cell_has {sc : Scope} {n : Nat} {x : Str} (h : sc.names.lookup x = some .cell) : ∃ c, (cellsFrom n sc.names []).lookup x = some c := by
  have q := PySem.W.cellsFrom_some sc.names n [] (.inl h)
  exact Option.isSome_iff_exists.mp q

theorem inv_start {CX : CXT} {P : Program} {w : World} {K : PySem.W.Frag} {mg : Str → Option Value} {base : Heap} {N ps : List Str} {qual : Str} {scope : Scope} {f : Addr} {cd : Value} {A : Around} {outer : List Env} {s s1 : Shared} {H : Hp} {E : XK} {us : List Value} {vs : List V}
    (S : FnScope N ps scope) (hd : A.handled = none) (e0 : Env0 P w K mg base A outer s H) (hl : vs.length = ps.length) (r : Vals vs us)
    (x : InCallC s s.heap.objs.size (bindL (envOfC qual scope s.heap.objs.size f cd).kindOf (ps.zip us) fun _ => none) (cellsFrom (s.heap.objs.size + 1) scope.names []) (bindC (envOfC qual scope s.heap.objs.size f cd).kindOf (ps.zip us) fun _ => none) s1) :
    Inv (cxOf CX P w K mg base N qual scope f cd A outer s H E) [] (start N vs) H s1 := by
  have hpl : ps.length ≤ N.length := by have := congrArg List.length S.pre; rw [List.length_take] at this; omega
  obtain ⟨h1, tk, rfl, hk⟩ := x.done
  have noA : ∀ b : Addr, b ∉ (cxOf CX P w K mg base N qual scope f cd A outer s H E).ex := fun b z => absurd (show b ∈ ([] : List Addr) from z) (by simp)
  refine ⟨⟨e0.mod, S.kind, rfl, rfl, Nat.le_refl _, fun y z c h1 h2 => ?_, fun y hy => ?_, fun y c _ h => ?_, fun _ => hd, Around.frames_deeper e0.frames, .inr ⟨rfl, rfl⟩, fun b z => absurd z (noA b), e0.bs, e0.bsz, fun b _ _ => noA b, fun b z => absurd z (noA b), e0.funs, e0.frf⟩,
    rfl, e0.bare, Un.kept hk, ⟨_, x.toInCall.ns, fun i y v h1 h2 h3 => ?_⟩, fun y c h => ⟨_, x.cell y c h⟩, e0.hok.fresh (Nat.le_refl _), fun y c h => ?_, fun p hp => absurd (show p ∈ ([] : List (Addr × Obj)) from hp) (by simp), e0.hok.kept hk, ?_⟩
  · exact name_of_addr x.apart (PySem.mem_of_lookup h1) (PySem.mem_of_lookup h2)
  · have hy : scope.names.lookup y = some .cell ∨ scope.names.lookup y = some .free := hy
    rcases hy with hy | hy
    · exact cell_has hy
    · exact absurd rfl (S.nofree _ (PySem.mem_of_lookup hy))
  · exact Nat.le_of_lt (x.above y c (PySem.mem_of_lookup h))
  · have hi : i < vs.length := by
      unfold start at h2
      by_cases hi : i < vs.length
      · exact hi
      · rw [List.getElem?_append_right (by simpa using hi)] at h2
        rw [List.getElem?_replicate] at h2
        split at h2 <;> cases h2
    have ha : vs[i]? = some v := by
      unfold start at h2
      rw [List.getElem?_append_left (by simpa using hi), List.getElem?_map] at h2
      cases e : vs[i]? with
      | none => rw [e] at h2; cases h2
      | some a => rw [e] at h2; cases h2; rfl
    obtain ⟨u, hu, rv⟩ := r.get ha
    have hp : ps[i]? = some y := by
      rw [← S.pre, List.getElem?_take_of_lt (by omega)]; exact h1
    have ndP : ps.Nodup := by rw [← S.pre]; exact S.nd.sublist (List.take_sublist _ _)
    refine ⟨u, rv, ?_⟩
    rcases S.par y (List.mem_of_getElem? hp) with k | k
    · exact .inl ⟨k, bindL_get ndP hp hu k⟩
    · obtain ⟨c, e⟩ := cell_has (n := s.heap.objs.size + 1) k
      refine .inr ⟨.inl k, c, e, ?_⟩
      have q := x.cell y c e
      rw [bindC_get ndP hp hu (by show scope.names.lookup y ≠ _; rw [k]; decide)] at q
      exact q
  · exact e0.hok.fresh (Nat.le_of_lt (x.above y c (PySem.mem_of_lookup h)))
  · unfold start
    show _ = N.length
    rw [List.length_append, List.length_map, List.length_replicate]
    omega

/-- THE RULE: a def (or a method) of the text, by its body. The body's reading t is chosen for each entry; it is run at the parameters' values -/
theorem fn_of {CX : CXT} {P : Program} {w : World} {K : PySem.W.Frag} {mg : Str → Option Value} {base : Heap} {k : Nat} {f : Addr} {name qual : Str} {params : Arguments} {body : List Stmt} {scope : Scope} {dV kV doc pm cdv ct oc : Value} {an od : Option Addr}
    {osl : Array (Option Value)} {N ps : List Str} {sp : Sp} (lk : K.lookup f = some ⟨oc, od, .func (PySem.W.fnOf name qual params body scope dV kV doc pm an cdv ct), osl⟩) (hcd : PySem.W.codeIn K cdv qual = true) (S : FnScope N ps scope)
    (len : ∀ vs H Q E, sp vs H Q E → vs.length = ps.length)
    (hbody : ∀ (A : Around) (outer : List Env) (s : Shared) (H : Hp) (vs : List V) (Q : VK) (E : XK), Room k (A.deeper (envOfC qual scope s.heap.objs.size f cdv)) → sp vs H Q E →
      ∃ t, PSs (cxOf CX P w K mg base N qual scope f cdv A outer s H E) body t ∧ t { nx := fun _ H' => Q .non H', rt := Q } (start N vs) H) :
    FnOk P w K mg base CX (k + 1) f (PySem.W.fnOf name qual params body scope dV kV doc pm an cdv ct) ps sp := by
  refine ⟨len, fun A outer s H args us vs Q E hr e0 hb r hsp => ?_⟩
  have hl := len _ _ _ _ hsp
  have KX : K.In s.heap := e0.mod.kin.keeps fun b o e => (e0.bs b o e).1
  have lim : s.heap.NoLimit := e0.mod.nolimit.keeps fun b o e => (e0.bs b o e).1
  have hkind : ∀ y ∈ ps.zip us, scope.names.lookup y.1 = some .local ∨ (scope.names.lookup y.1 = some .cell ∧ ((cellsFrom (s.heap.objs.size + 1) scope.names []).lookup y.1).isSome = true) := fun ⟨n, v⟩ hy => by
    rcases S.par n (List.of_mem_zip hy).1 with q | q
    · exact .inl q
    · exact .inr ⟨q, PySem.W.cellsFrom_some _ _ _ (.inl q)⟩
  refine codeAny_call_function hr.depth (KX _ _ lk) rfl S.co S.gen rfl (PySem.W.codeRec_of KX hcd) (hb _ _ _ _ ?_)
  refine wpAny_newFunctionEnv_cells S.kind hkind fun env he s1 x => ?_
  subst he
  refine ⟨lim.keeps x.toInCall.keep, codeAny_func ?_⟩
  obtain ⟨t, ht, hq⟩ := hbody A outer s H vs Q E (hr.deeper _) hsp
  have I : Inv (cxOf CX P w K mg base N qual scope f cdv A outer s H E) [] (start N vs) H s1 := inv_start S hr.hd e0 hl r x
  refine wpAny_mono (ht [] s1 (start N vs) H _ I hq) (fun fl s' hs => ?_) fun e s' hs => hs
  have fin : ∀ {σ' : St} {H' : Hp} {v : V} {u : Value}, Inv (cxOf CX P w K mg base N qual scope f cdv A outer s H E) [] σ' H' s' → RelV v u → Q v H' → CE outer P w H s Q u s' :=
    fun {σ' H' v u} J rv q => ⟨v, H', J.os, J.bare, J.base, J.hok, rv, q⟩
  cases fl with
  | ret u =>
    obtain ⟨v, σ', H', J, rv, q⟩ := hs
    exact fin J rv q
  | next =>
    obtain ⟨σ', H', J, q⟩ := hs
    exact fin (v := V.non) (u := Value.none) J rfl q
  | brk =>
    obtain ⟨_, _, _, q⟩ := hs
    exact False.elim q
  | cont =>
    obtain ⟨_, _, _, q⟩ := hs
    exact False.elim q
end L2

namespace L2
open PySem PySem.Spec PyProof.Rows
section
variable {X : Cx} {x : Str} {p pos : Pos} {e : Expr} {es : List Expr} {t : TA} {id T : String} {r : List V → Hp → VK → Prop}

def tCB (r : List V → Hp → VK → Prop) (t : TA) : TE := fun σ H Q => t σ H fun vs H1 => r vs H1 Q
/-- f(e, ..), f a built-in function -/
theorem pe_callB (hc : CallR X (.builtin id) r) (hg : Gl X x) (hm : X.mg x = none) (hv : bootBuiltins x = some (.builtin id)) (ha : PA X (e :: es) t) (hn : x ≠ "__name__" := by decide) (hdb : (x == ("__debug__" : Str)) = false := by decide)
    (he : starEach (e :: es) X.env = (false, eval e X.env) :: starEach es X.env := by rfl) (hpl : (backTo pos (starEach es X.env)).any (·.1) = false := by rfl) : PE X (.Call (.Name x p) (e :: es) [] pos) (tCB r t) := by
  intro pins s σ H Q I h
  refine wpAny_Call_Name_kw (ld_blt I hg hm hv ?_ hn hdb)
  exact PyProof.Rows.callWith_builtin1 (thn (ha pos pins s σ H _ I h) fun us s1 ⟨vs, H1, I1, r1, q1⟩ => hc pins s1 σ H1 vs us Q I1 r1 q1) he hpl
end
end L2

namespace HT
open PySem PyProof.Rows

section
open PySem.SeqAt
open PySem.AutoSeq1 (wpAny_loadPart')
open PySem.MeetsSeq PySem.MeetsSeq2 PySem.MeetsSeq3

end

section
variable {prog : Program} {w : World} {A : Around} {E : Value → Shared → Prop} {s : Shared}

/-! ### t[a:b], not the whole -/
/-- a slice's bound as a place among n (d where it is left out) -/
def sIx (n d : Nat) : Option Int → Nat
  | none => d
  | some v => if v < 0 then (v + (n : Int)).toNat else min v.toNat n
theorem sIx_nat (n d k : Nat) : sIx n d (some (k : Int)) = min k n := by
  show (if (k : Int) < 0 then ((k : Int) + (n : Int)).toNat else min (k : Int).toNat n) = min k n
  rw [if_neg (by omega), Int.toNat_natCast]
end
end HT

namespace L2
open PySem PySem.Spec PyProof.Rows

/-! ### the parts of a slice -/
abbrev TO := St → Hp → (Option Int → Hp → Prop) → Prop
/-- a slice's part (left out, or an int) -/
def PO (X : Cx) (e : Option Expr) (t : TO) : Prop :=
  ∀ (pins : List (Addr × Obj)) (s : Shared) (σ : St) (H : Hp) (Q : Option Int → Hp → Prop), Inv X pins σ H s → t σ H Q →
    wpAny (model X.prog X.w) X.A (evalPart e X.env) (fun u s' => ∃ o H', Inv X pins σ H' s' ∧ IsPart u o ∧ Q o H') X.xe s
def tPart (t : TE) : TO := fun σ H Q => t σ H fun x H1 => ∃ i, x = .int i ∧ Q (some i) H1

section
variable {X : Cx} {e : Expr} {te : TE} {lo hi : Option Expr} {tl th : TO} {pos p2 : Pos}

theorem po_some (h : PE X e te) : PO X (some e) (tPart te) := by
  intro pins s σ H Q I hw
  rw [evalPart_some]
  refine thn (h pins s σ H _ I hw) fun u s1 ⟨x, H1, I1, r1, q1⟩ => ?_
  obtain ⟨i, rfl, q⟩ := q1
  obtain ⟨t, rfl⟩ := r1
  exact ⟨some i, H1, I1, .int i t, q⟩

/-- what a slice of a value is, by values: the slice object stands at sl -/
def SlR (X : Cx) (r : V → Option Int → Option Int → Hp → VK → Prop) : Prop :=
  ∀ (pins : List (Addr × Obj)) (s : Shared) (σ : St) (H : Hp) (x : V) (v vl vu : Value) (lo hi : Option Int) (sl : Addr) (Q : VK), Inv X pins σ H s → RelV x v → s.heap.IsSliceOf sl vl vu .none → IsPart vl lo → IsPart vu hi → r x lo hi H Q →
    ∃ T id, typeLookup (.type T) "__getitem__" = pure (some (.builtin id)) ∧ s.TypeIs v T ∧ wpAny (model X.prog X.w) X.A (getItem v (.ref sl)) (EP X pins σ Q) X.xe s
def tSl (r : V → Option Int → Option Int → Hp → VK → Prop) (te : TE) (tl th : TO) : TE := fun σ H Q => te σ H fun x H1 => tl σ H1 fun l H2 => th σ H2 fun u H3 => r x l u H3 Q
/-- a[lo:hi], any a -/
theorem pe_slice {r : V → Option Int → Option Int → Hp → VK → Prop} (hr : SlR X r) (he : PE X e te) (hl : PO X lo tl) (hu : PO X hi th) : PE X (.Subscript e (.Slice lo hi none p2) pos) (tSl r te tl th) := by
  intro pins s σ H Q I h
  refine Subscript_ (thn (he pins s σ H _ I h) fun v s1 ⟨x, H1, I1, r1, q1⟩ => ?_)
  refine wpAny_Slice (thn (hl pins s1 σ H1 _ I1 q1) fun vl s2 ⟨l, H2, I2, pl, q2⟩ => thn (hu pins s2 σ H2 _ I2 q2) fun vu s3 ⟨u, H3, I3, pu, q3⟩ => ?_)
  rw [evalPart_none]
  refine wpAny_pure ?_
  have I4 : Inv X pins σ H3 { s3 with heap := s3.heap.push { cls := .type "slice", data := .fields #[vl, vu, .none] } } := I3.kept (t' := s3.toks) fun b ob q => Heap.get?_push_of_some _ q
  obtain ⟨T, id, hT, ht, hg⟩ := hr pins { s3 with heap := s3.heap.push { cls := .type "slice", data := .fields #[vl, vu, .none] } } σ H3 x v vl vu l u s3.heap.objs.size Q I4 r1 (Heap.IsSliceOf.new ..) pl pu q3
  show wpAny (model X.prog X.w) X.A (subscriptTail e (.Slice lo hi none p2) v (.ref s3.heap.objs.size)) (EP X pins σ Q) X.xe { s3 with heap := s3.heap.push { cls := .type "slice", data := .fields #[vl, vu, .none] } }
  exact tail_any (ops := [.ref s3.heap.objs.size, v]) ht hT hg (by with_unfolding_all rfl)

/-- the items of xs[lo:hi] -/
def cutV (xs : List V) (lo hi : Option Int) : List V := (xs.drop (HT.sIx xs.length 0 lo)).take (HT.sIx xs.length xs.length hi - HT.sIx xs.length 0 lo)
theorem cutV_length (xs : List V) (lo hi : Option Int) : (cutV xs lo hi).length ≤ xs.length := by
  unfold cutV
  rw [List.length_take, List.length_drop]
  omega
/-! ### t < u, t + u -/
end
end L2

namespace L2
open PySem PySem.Spec PyProof.Rows

/-! ### places -/
/-- the place that an index of any sign means -/
def ixN (n : Nat) (i : Int) : Option Nat := if 0 ≤ i then (if i < n then some i.toNat else none) else if -(n : Int) ≤ i then some (i + n).toNat else none
def atI {α : Type} (xs : List α) (i : Int) : Option α := (ixN xs.length i).bind fun j => xs[j]?
theorem ixN_seq {n : Nat} {i : Int} {j : Nat} (h : ixN n i = some j) : seqIndex? i n = some j ∧ j < n ∧ -(n : Int) ≤ i ∧ i < n := by
  unfold ixN at h
  by_cases h0 : 0 ≤ i
  · rw [if_pos h0] at h
    by_cases h1 : i < n
    · rw [if_pos h1] at h
      have e : i.toNat = j := Option.some.inj h
      exact ⟨by rw [seqIndex_of h0 h1, e], by omega, by omega, h1⟩
    · rw [if_neg h1] at h; cases h
  · rw [if_neg h0] at h
    by_cases h1 : -(n : Int) ≤ i
    · rw [if_pos h1] at h
      have e : (i + n).toNat = j := Option.some.inj h
      exact ⟨by rw [seqIndex_neg (by omega) h1, e], by omega, h1, by omega⟩
    · rw [if_neg h1] at h; cases h
theorem atI_get {α : Type} {xs : List α} {i : Int} {v : α} (h : atI xs i = some v) : ∃ j, seqIndex? i xs.length = some j ∧ xs[j]? = some v ∧ j < xs.length ∧ -(xs.length : Int) ≤ i ∧ i < xs.length := by
  unfold atI at h
  cases e : ixN xs.length i with
  | none => rw [e] at h; cases h
  | some j =>
    rw [e] at h
    obtain ⟨h1, h2, h3, h4⟩ := ixN_seq e
    exact ⟨j, h1, h, h2, h3, h4⟩
theorem atI_nat {α : Type} {xs : List α} {j : Nat} {v : α} (h : xs[j]? = some v) : atI xs (j : Int) = some v := by
  have hj : j < xs.length := (List.getElem?_eq_some_iff.mp h).1
  have e : ixN xs.length (j : Int) = some j := by
    unfold ixN
    rw [if_pos (by omega), if_pos (by omega)]; simp
  unfold atI; rw [e]; exact h
/-! ### what may be subscripted -/
/-- what stands as an index of a plain subscript -/
def PlainIx (b : Expr) : Prop := ∀ o i, subscripted b false o i = operate [o, i] (getItem o i)
/-- a subscript by values -/
def IxR (X : Cx) (r : R2) : Prop :=
  ∀ (value slice : Expr) (pins : List (Addr × Obj)) (s : Shared) (σ : St) (H : Hp) (x y : V) (v u : Value) (Q : VK), Inv X pins σ H s → RelV x v → RelV y u → r x y H Q →
    subscripted slice false v u = operate [v, u] (getItem v u) → wpAny (model X.prog X.w) X.A (subscriptTail value slice v u) (EP X pins σ Q) X.xe s
/-- a call of a builtin's method by values: the receiver, the arguments -/
def MtR (X : Cx) (id : String) (r : V → List V → Hp → VK → Prop) : Prop :=
  ∀ (pins : List (Addr × Obj)) (s : Shared) (σ : St) (H : Hp) (x : V) (xs : List V) (v : Value) (us : List Value) (Q : VK), Inv X pins σ H s → RelV x v → Vals xs us → r x xs H Q →
    wpAny (model X.prog X.w) X.A (call (.builtin id) (v :: us)) (EP X pins σ Q) X.xe s
section
variable {X : Cx} {a b : Expr} {ta tb : TE} {pos : Pos}
/-- a[b] -/
theorem pe_ix {r : R2} (hr : IxR X r) (ha : PE X a ta) (hb : PE X b tb) (hs : PlainIx b) : PE X (.Subscript a b pos) (tOp r ta tb) := by
  intro pins s σ H Q I h
  exact Subscript_ (binT ha hb I h fun v u s2 x y H2 I2 rx ry q => hr a b pins s2 σ H2 x y v u Q I2 rx ry q (hs _ _))

def rIxL (K : PySem.W.Frag) : R2 := fun x y H Q => ∃ p xs i v, x = .ref p ∧ y = .int i ∧ SqL K H p xs ∧ atI xs i = some v ∧ Q v H
def rIxT (K : PySem.W.Frag) : R2 := fun x y H Q => ∃ p xs i v, x = .ref p ∧ y = .int i ∧ SqT K H p xs ∧ atI xs i = some v ∧ Q v H
theorem ix_list : IxR X (rIxL X.K) := by
  intro value slice pins s σ H x y v u Q I rx ry h hs
  obtain ⟨p, xs, i, z, rfl, rfl, hq, he, q⟩ := h
  cases rx
  obtain ⟨t, rfl⟩ := ry
  obtain ⟨its, r, pl, hz⟩ := I.list hq
  obtain ⟨j, h1, h2, h3, h4, h5⟩ := atI_get he
  obtain ⟨w, ew, rw'⟩ := r.get h2
  have hl := r.length
  have hn := line63
  have fin : EP X pins σ Q w s := ⟨z, H, I, rw', q⟩
  by_cases h0 : 0 ≤ i
  · have hj : i.toNat = j := by
      rw [seqIndex_of h0 h5] at h1
      exact Option.some.inj h1
    exact item_listR pl.isList h0 (by omega) (by rw [hj]; simpa using ew) fin hs
  · have hj : (i + (its.toArray.size : Int)).toNat = j := by
      rw [seqIndex_neg (by omega) h4] at h1
      rw [List.size_toArray, ← hl]
      exact Option.some.inj h1
    exact subscriptTail_builtinR (x := w) pl.isList.typeIs slot_list_getitem.lookup
      (wpAny_getItem_list_neg (Q := fun r s' => r = w ∧ EP X pins σ Q r s') pl.isList (by omega) (by rw [List.size_toArray] <;> omega) (by omega) (by rw [hj]; simpa using ew) ⟨rfl, fin⟩) hs
theorem ix_tup : IxR X (rIxT X.K) := by
  intro value slice pins s σ H x y v u Q I rx ry h hs
  obtain ⟨p, xs, i, z, rfl, rfl, hq, he, q⟩ := h
  cases rx
  obtain ⟨t, rfl⟩ := ry
  obtain ⟨its, r, pl, hz⟩ := I.tuple hq
  obtain ⟨j, h1, h2, h3, h4, h5⟩ := atI_get he
  obtain ⟨w, ew, rw'⟩ := r.get h2
  have hl := r.length
  have hn := line63
  have fin : EP X pins σ Q w s := ⟨z, H, I, rw', q⟩
  exact subscriptTail_builtinR (x := w) pl.typeIs slot_tuple_getitem.lookup
    (getItem_tuple (j := j) (Q := fun r s' => r = w ∧ EP X pins σ Q r s') pl (by omega) (by omega) (by rw [List.size_toArray, ← hl]; exact h1) (by simpa using ew) ⟨rfl, fin⟩) hs
/-! ### xs[i] = v, any sign -/
/-- the list's object behind a store -/
theorem mapSeq_set (its : List Value) (n j : Nat) (u : Value) : Obj.mapSeq (·.setIfInBounds j u) { cls := .type "list", data := .seq its.toArray n } = { cls := .type "list", data := .seq (its.set j u).toArray n } := by
  simp [Obj.mapSeq]
theorem Inv.lst {pins : List (Addr × Obj)} {σ : St} {H : Hp} {s : Shared} {p : Addr} {xs : List V} (I : Inv X pins σ H s) (h : H p = some (.lst xs)) :
    ∃ (its : List Value) (n : Nat), Vals xs its ∧ s.heap.get? p = some { cls := .type "list", data := .seq its.toArray n } ∧ xs.length ≤ sizeLine := by
  obtain ⟨z, its, n, r, e⟩ := I.hok p _ h
  exact ⟨its, n, r, e, z⟩
/-- the list at p is written by an update of its object -/
theorem Inv.lstUpd {pins : List (Addr × Obj)} {σ : St} {H : Hp} {s : Shared} {p : Addr} {xs ys : List V} {its its' : List Value} {n n' : Nat} {f : Obj → Obj} (I : Inv X pins σ H s) (h : H p = some (.lst xs))
    (ho : s.heap.get? p = some { cls := .type "list", data := .seq its.toArray n }) (hf : f { cls := .type "list", data := .seq its.toArray n } = { cls := .type "list", data := .seq its'.toArray n' }) (r : Vals ys its') (hz : ys.length ≤ sizeLine) (t : Nat) :
    Inv X pins σ (upd H p (.lst ys)) { s with heap := s.heap.update p f, toks := t } := by
  have e : (s.heap.update p f).get? p = some { cls := .type "list", data := .seq its'.toArray n' } := by
    rw [Heap.get?_update_self f ho (by rw [hf] <;> rfl), hf]
  refine I.write (x := p) (e := p) (by rw [h]; trivial) (.inl rfl) (fun b u hb q => (Heap.get?_update_other _ _ (Ne.symm hb)).trans q) ⟨_, e⟩ ?_
  exact ⟨hz, its', n', r, e⟩
def rSetL : V → V → V → Hp → (Hp → Prop) → Prop := fun o i v H Q => ∃ p xs k j, o = .ref p ∧ i = .int k ∧ H p = some (.lst xs) ∧ ixN xs.length k = some j ∧ Q (upd H p (.lst (xs.set j v)))
theorem set_list : PSet X rSetL := by
  intro pins s σ H o i v ov iv u Q I ro ri rv h
  obtain ⟨p, xs, k, j, rfl, rfl, hp, hj, q⟩ := h
  cases ro
  obtain ⟨t, rfl⟩ := ri
  obtain ⟨its, n, r, ho, hz⟩ := I.lst hp
  obtain ⟨h1, h2, h3, h4⟩ := ixN_seq hj
  have hl := r.length
  have hn := line63
  have I' : Inv X pins σ (upd H p (.lst (xs.set j v))) { s with heap := s.heap.update p (Obj.mapSeq (·.setIfInBounds j u)) } :=
    I.lstUpd hp ho (mapSeq_set its n j u) (r.set rv j) (by rw [List.length_set]; exact hz) s.toks
  by_cases h0 : 0 ≤ k
  · have hk : k.toNat = j := by
      rw [seqIndex_of h0 h4] at h1
      exact Option.some.inj h1
    exact PySem.W.ki_setAt ho h0 (by omega) (by rw [List.size_toArray, ← hl]; exact h4) (by rw [hk]; exact ⟨_, I', q⟩)
  · have hk : (k + (its.toArray.size : Int)).toNat = j := by
      rw [seqIndex_neg (by omega) h3] at h1
      rw [List.size_toArray, ← hl]
      exact Option.some.inj h1
    exact PySem.W.ki_setBack ho (by omega) (by rw [List.size_toArray, ← hl]; exact h3) (by omega) (by rw [hk]; exact ⟨_, I', q⟩)

/-! ### slices -/
theorem slice_bounds (lo hi : Option Int) (n : Nat) : (sliceBounds lo hi none n).1 = ((HT.sIx n 0 lo : Nat) : Int) ∧ (sliceBounds lo hi none n).2.1 = ((HT.sIx n n hi : Nat) : Int) ∧ (sliceBounds lo hi none n).2.2 = 1 := by
  refine ⟨?_, ?_, rfl⟩
  · cases lo with
    | none => simp [sliceBounds, HT.sIx]
    | some i =>
      simp only [sliceBounds, HT.sIx, Option.getD_none, show (1 : Int) > 0 by decide, if_true]
      by_cases h : i < 0
      · simp only [h, if_true] <;> omega
      · simp only [h, if_false] <;> omega
  · cases hi with
    | none => simp [sliceBounds, HT.sIx]
    | some i =>
      simp only [sliceBounds, HT.sIx, Option.getD_none, show (1 : Int) > 0 by decide, if_true]
      by_cases h : i < 0
      · simp only [h, if_true] <;> omega
      · simp only [h, if_false] <;> omega
theorem slicePick_cut (its : List Value) (lo hi : Option Int) : slicePick its.toArray lo hi none = ((its.drop (HT.sIx its.length 0 lo)).take (HT.sIx its.length its.length hi - HT.sIx its.length 0 lo)).toArray := by
  obtain ⟨h1, h2, h3⟩ := slice_bounds lo hi its.toArray.size
  unfold slicePick
  rw [h1, h2, h3]
  simp only [sliceRange_one, pick_run, List.size_toArray] <;> rfl
/-- xs[lo:hi] of a list: a new list -/
def rSlL (K : PySem.W.Frag) : V → Option Int → Option Int → Hp → VK → Prop := fun x lo hi H Q => ∃ a xs, x = .ref a ∧ SqL K H a xs ∧ ∀ p, H p = none → Q (.ref p) (upd H p (.lst (cutV xs lo hi)))
theorem sl_list : SlR X (rSlL X.K) := by
  intro pins s σ H x v vl vu lo hi sl Q I rx hs pl pu h
  obtain ⟨a, xs, rfl, hx, q⟩ := h
  cases rx
  obtain ⟨its, r, ht, hz⟩ := I.list hx
  have hlen := r.length
  refine ⟨"list", _, slot_list_getitem.lookup, ht.isList.typeIs, ?_⟩
  refine wpAny_getItem_list_slice ht.isList hs pl pu .none (by simp) ?_ (by rw [List.size_toArray] <;> omega)
  rw [slicePick_cut, ← hlen]
  refine ⟨.ref s.heap.objs.size, _, I.laid (t' := s.toks) (o := .lst (cutV xs lo hi)) (fun b ob q => Heap.get?_push_of_some _ q) (Nat.le_refl _) ?_, rfl, q _ (I.hok.fresh (Nat.le_refl _))⟩
  exact ⟨Nat.le_trans (cutV_length xs lo hi) hz, _, 0, (r.drop (HT.sIx xs.length 0 lo)).take (HT.sIx xs.length xs.length hi - HT.sIx xs.length 0 lo), Heap.get?_push_size _ rfl⟩

/-! ### in, not in: flat items -/
/-! ### len, list(x), tuple(x) of any list or tuple that is read -/
theorem call_len_seq : CallR X (.builtin "len") (fun xs H Q => ∃ p ys, xs = [.ref p] ∧ (SqL X.K H p ys ∨ SqT X.K H p ys) ∧ Q (.int ys.length) H) := by
  intro pins s σ H xs us Q I r h
  obtain ⟨p, ys, rfl, hq, q⟩ := h
  obtain ⟨u, rfl, rx⟩ := vals1 r
  cases rx
  have hn := line63
  rcases hq with hq | hq
  · obtain ⟨its, r', pl, hz⟩ := I.list hq
    have hlen := r'.length
    exact Calls.call_len_list pl.isList (by simp only [List.size_toArray] <;> omega) ⟨.int ys.length, H, I.tok _, ⟨s.toks + 1, by rw [List.size_toArray, hlen]⟩, q⟩
  · obtain ⟨its, r', pl, hz⟩ := I.tuple hq
    have hlen := r'.length
    exact len_tuple pl (by simp only [List.size_toArray] <;> omega) ⟨.int ys.length, H, I.tok _, ⟨s.toks + 1, by rw [List.size_toArray, hlen]⟩, q⟩
/-! ### the call of a builtin's method: o.m(..) -/
/-- the value is of that builtin type -/
def tyV (K : PySem.W.Frag) (T : String) (x : V) (H : Hp) : Prop := match x with
  | .str _ => T = "str"
  | .int _ => T = "int"
  | .ref p => (T = "list" ∧ ∃ xs, SqL K H p xs) ∨ (T = "tuple" ∧ ∃ o, K.lookup p = some o ∧ o.cls = .type "tuple" ∧ o.dict = none) ∨
      (T = "dict" ∧ ((∃ kvs, H p = some (.dK kvs)) ∨ ∃ kvs, H p = some (.dT kvs))) ∨ (T = "set" ∧ ∃ S n, H p = some (.set S n))
  | _ => False
theorem tyV_is {pins : List (Addr × Obj)} {σ : St} {H : Hp} {s : Shared} {T : String} {x : V} {v : Value} (I : Inv X pins σ H s) (r : RelV x v) (ty : tyV X.K T x H) :
    s.TypeIs v T ∧ ∀ a, v = .ref a → ∃ ob, s.heap.get? a = some ob ∧ ob.dict = none := by
  cases x with
  | str z =>
    obtain ⟨t, rfl⟩ := r
    cases (show T = "str" from ty)
    exact ⟨typeIs_str s z t, fun _ e => nomatch e⟩
  | int i =>
    obtain ⟨t, rfl⟩ := r
    cases (show T = "int" from ty)
    exact ⟨typeIs_int s i t, fun _ e => nomatch e⟩
  | ref p =>
    cases r
    rcases ty with ⟨rfl, xs, hq⟩ | ⟨rfl, o, hk, hc, hd⟩ | ⟨rfl, hk⟩ | ⟨rfl, S, n, hk⟩
    · obtain ⟨its, _, pl, _⟩ := I.list hq
      refine ⟨pl.isList.typeIs, fun a e => ?_⟩
      cases e
      obtain ⟨o, n, e, c, hd, _⟩ := pl
      exact ⟨o, e, hd⟩
    · refine ⟨⟨o, I.kIn p o hk, hc⟩, fun a e => ?_⟩
      cases e
      exact ⟨o, I.kIn _ o hk, hd⟩
    · have z : ∃ o, s.heap.get? p = some o ∧ o.ExactDict := by
        rcases hk with ⟨kvs, hk⟩ | ⟨kvs, hk⟩
        · obtain ⟨_, _, _, _, o, _, _, e, ex, _⟩ := I.hok p _ hk
          exact ⟨o, e, ex⟩
        · obtain ⟨_, _, _, _, o, _, _, e, ex, _⟩ := I.hok p _ hk
          exact ⟨o, e, ex⟩
      obtain ⟨o, e, ex⟩ := z
      refine ⟨⟨o, e, ex.1⟩, fun a e2 => ?_⟩
      cases e2
      exact ⟨o, e, ex.2.1⟩
    · obtain ⟨o, _, _, _, e, ex, _⟩ := I.hok p _ hk
      refine ⟨⟨o, e, ex.1⟩, fun a e2 => ?_⟩
      cases e2
      exact ⟨o, e, ex.2.1⟩
  | _ => exact False.elim ty
def tBM (K : PySem.W.Frag) (T : String) (r : V → List V → Hp → VK → Prop) (to : TE) (t : TA) : TE := fun σ H Q => to σ H fun x H1 => tyV K T x H1 ∧ t σ H1 fun xs H2 => r x xs H2 Q
variable {o e : Expr} {es : List Expr} {to : TE} {t : TA} {name : Str} {apos cpos : Pos} {T id : String} {r : V → List V → Hp → VK → Prop}
theorem pe_bm (pa : PlainAttrs T) (slot : Slot T name id) (hty : typeOf (.builtin id) = pure (.type "method_descriptor")) (hm : MtR X id r) (ho : PE X o to) (ha : PA X (e :: es) t)
    (hbase : attributeBase o name X.env (eval o X.env) = eval o X.env := by rfl)
    (hfew : ((backTo cpos (starEach (e :: es) X.env)).all (fun x => !x.1) && (backToKw cpos (keywordEach [] X.env)).all (fun x => x.1.isSome)
      && decide ((e :: es).length + ([] : List Keyword).length + (if ([] : List Keyword).isEmpty then 0 else 1) < 30)) = true := by rfl)
    (hline : (apos.endLine == cpos.line) = true := by rfl) (hs : starEach (e :: es) X.env = (false, eval e X.env) :: starEach es X.env := by rfl) (hplain : (backTo cpos (starEach es X.env)).any (·.1) = false := by rfl) :
    PE X (.Call (.Attribute o name apos) (e :: es) [] cpos) (tBM X.K T r to t) := by
  intro pins s σ H Q I h
  refine wpAny_Call_method_late hbase hfew hline rfl (thn (ho pins s σ H _ I h) fun v s1 ⟨x, H1, I1, r1, ty, q1⟩ => ?_)
  obtain ⟨h1, h2⟩ := tyV_is I1 r1 ty
  refine ⟨T, id, pa, slot, hty, h1, h2, ?_⟩
  have hA := ha cpos pins s1 σ H1 _ I1 q1
  rw [hs] at hA ⊢
  refine Calls.callWith_builtin (by show (false || (backTo cpos (starEach es X.env)).any (·.1)) = false; rw [hplain] <;> rfl) (Calls.evalArgs_plain ?_)
  exact thn hA fun us s2 ⟨vs, H2, I2, r2, q2⟩ => hm pins s2 σ H2 x vs v us Q I2 r1 r2 q2
end
end L2

namespace L2
open PySem PySem.Spec PyProof.Rows

def MtM (X : Cx) (id : String) (r : V → List V → Hp → VK → Prop) : Prop :=
  ∀ (pins : List (Addr × Obj)) (s : Shared) (σ : St) (H : Hp) (x : V) (xs : List V) (v : Value) (us : List Value) (Q : VK), Inv X pins σ H s → RelV x v → Vals xs us → r x xs H Q →
    wpAny (model X.prog X.w) X.A (call (.builtin id) (v :: us)) (EP X pins σ Q) X.xe s

/-! ### lists of values -/
theorem Vals.one : ∀ {x : V} {us : List Value}, Vals [x] us → ∃ u, us = [u] ∧ RelV x u
  | _, _, .cons r .nil => ⟨_, rfl, r⟩
theorem Vals.rep {xs : List V} {us : List Value} (h : Vals xs us) : ∀ k : Nat, Vals (List.replicate k xs).flatten (List.replicate k us).flatten
  | 0 => .nil
  | k + 1 => by
    rw [List.replicate_succ, List.replicate_succ, List.flatten_cons, List.flatten_cons]
    exact Vals.append h (Vals.rep h k)
theorem foldl_rep (its : List Value) : ∀ (k : Nat) (acc : List Value),
    List.foldl (fun x1 x2 => x1 ++ x2) acc.toArray (List.replicate k its.toArray) = (acc ++ (List.replicate k its).flatten).toArray
  | 0, acc => by simp
  | k + 1, acc => by
    have e : acc.toArray ++ its.toArray = (acc ++ its).toArray := by simp
    have e2 : (acc ++ its) ++ (List.replicate k its).flatten = acc ++ (List.replicate (k + 1) its).flatten := by
      rw [List.replicate_succ, List.flatten_cons, List.append_assoc]
    rw [← e2, ← foldl_rep its k (acc ++ its), ← e, List.replicate_succ, List.foldl_cons]

section
variable {X : Cx} {pins : List (Addr × Obj)} {σ : St} {H : Hp} {s : Shared} {l b : Addr} {xs ys zs : List V}

/-! ### the two steps: a tracked list is rewritten, a new list is laid -/
theorem Inv.lset {its its' : List Value} {n : Nat} {f : Array Value → Array Value} {t' : Nat} (I : Inv X pins σ H s) (hH : H l = some (.lst xs))
    (e : s.heap.get? l = some { cls := .type "list", data := .seq its.toArray n }) (hf : f its.toArray = its'.toArray) (hv : Vals ys its') (hz : ys.length ≤ sizeLine) :
    Inv X pins σ (upd H l (.lst ys)) { s with heap := s.heap.update l (Obj.mapSeq f), toks := t' } := by
  have q := PySem.IsL.update e f
  rw [hf] at q
  refine I.write (x := l) (e := l) (by rw [hH]; exact trivial) (.inl rfl) (fun b' u hb hu => (Heap.get?_update_other s.heap (Obj.mapSeq f) (Ne.symm hb)).trans hu) ⟨_, q⟩ ?_
  exact ⟨hz, its', _, hv, q⟩
theorem Inv.lnew {its : List Value} {t' : Nat} (I : Inv X pins σ H s) (hv : Vals ys its) (hz : ys.length ≤ sizeLine) :
    Inv X pins σ (upd H s.heap.objs.size (.lst ys)) { s with heap := s.heap.push { cls := .type "list", data := .seq its.toArray }, toks := t' } :=
  I.laid (fun _ _ q => Heap.get?_push_of_some _ q) (Nat.le_refl _) ⟨hz, its, 0, hv, Heap.get?_push_size _ rfl⟩
theorem Inv.fresh (I : Inv X pins σ H s) : H s.heap.objs.size = none := I.hok.fresh (Nat.le_refl _)
theorem Inv.lstM (I : Inv X pins σ H s) (hH : H l = some (.lst xs)) : xs.length ≤ sizeLine ∧ ∃ (its : List Value) (n : Nat), Vals xs its ∧ xs.length = its.length ∧ s.heap.get? l = some { cls := .type "list", data := .seq its.toArray n } := by
  obtain ⟨z, its, n, r, e⟩ := I.hok l _ hH
  exact ⟨z, its, n, r, r.length, e⟩

theorem notLongL {n : Nat} (h : n ≤ sizeLine) : Builtin.List.listTooLong n = false := by
  unfold Builtin.List.listTooLong
  exact decide_eq_false (by omega)
end

section
variable {X : Cx}

/-! ### methods -/
def rAppend : V → List V → Hp → VK → Prop := fun x vs H Q => ∃ l xs y, x = .ref l ∧ vs = [y] ∧ H l = some (.lst xs) ∧ xs.length < sizeLine ∧ Q .non (upd H l (.lst (xs ++ [y])))
theorem mt_append : MtM X "list.append" rAppend := by
  intro pins s σ H x vs v us Q I rx rv h
  obtain ⟨l, xs, y, rfl, rfl, hH, hz, q⟩ := h
  cases rx
  obtain ⟨u, rfl, ru⟩ := rv.one
  obtain ⟨z, its, n, r, hl, e⟩ := I.lstM hH
  refine call_meets F.slot_list_append ⟨_, e, rfl⟩ F.entry_list_append (F.args_list_append_2 _ _) (PySem.list_append l its.toArray n u (by rw [List.size_toArray]; omega)) ⟨e, ?_⟩
  refine ⟨.non, _, I.lset (its' := its ++ [u]) hH e (by simp) (r.append (.cons ru .nil)) ?_, rfl, q⟩
  rw [List.length_append, List.length_singleton]
  omega

def rExtend : V → List V → Hp → VK → Prop := fun x vs H Q => ∃ l b xs zs, x = .ref l ∧ vs = [.ref b] ∧ H l = some (.lst xs) ∧ H b = some (.lst zs) ∧ xs.length + zs.length ≤ sizeLine ∧ Q .non (upd H l (.lst (xs ++ zs)))
theorem mt_extend : MtM X "list.extend" rExtend := by
  intro pins s σ H x vs v us Q I rx rv h
  obtain ⟨l, b, xs, zs, rfl, rfl, hH, hB, hz, q⟩ := h
  cases rx
  obtain ⟨u, rfl, ru⟩ := rv.one
  cases ru
  obtain ⟨z, its, n, r, hl, e⟩ := I.lstM hH
  obtain ⟨z2, its2, n2, r2, hl2, e2⟩ := I.lstM hB
  have hsz : its.toArray.size + its2.toArray.size ≤ sizeLine := by rw [List.size_toArray, List.size_toArray]; omega
  have hlong : ¬ (!its.toArray.isEmpty && Builtin.List.listTooLong (its.toArray.size + its2.toArray.size)) = true := by
    rw [notLongL hsz, Bool.and_false]
    exact Bool.false_ne_true
  refine call_meets F.slot_list_extend ⟨_, e, rfl⟩ F.entry_list_extend (F.args_list_extend_2 _ _)
    (AutoSeq1.list_extend_list_list_0 l its.toArray n b its2.toArray n2 hlong (by rw [List.size_toArray]; omega) (by omega)) ⟨e, e2, ?_⟩
  refine ⟨.non, _, I.lset (its' := its ++ its2) hH e (by simp) (r.append r2) ?_, rfl, q⟩
  rw [List.length_append]
  omega

/-! ### list + list, list += list, list * int -/
def rCat : R2 := fun x y H Q => ∃ l b xs zs, x = .ref l ∧ y = .ref b ∧ H l = some (.lst xs) ∧ H b = some (.lst zs) ∧ xs.length + zs.length ≤ sizeLine ∧ ∀ p, H p = none → Q (.ref p) (upd H p (.lst (xs ++ zs)))
theorem op_cat : OpR X (binaryOp .Add) rCat := by
  intro pins s σ H x y v u Q I rx ry h
  obtain ⟨l, b, xs, zs, rfl, rfl, hH, hB, hz, q⟩ := h
  cases rx
  cases ry
  obtain ⟨z, its, n, r, hl, e⟩ := I.lstM hH
  obtain ⟨z2, its2, n2, r2, hl2, e2⟩ := I.lstM hB
  refine PySem.P.add_list e e2 ?_ (by rw [List.size_toArray, List.size_toArray]; omega)
  have ea : its.toArray ++ its2.toArray = (its ++ its2).toArray := by simp
  rw [ea]
  exact ⟨.ref _, _, I.lnew (t' := s.toks) (r.append r2) (by rw [List.length_append]; omega), rfl, q _ I.fresh⟩
/-- a list times an int (a negative one is nothing) -/
def rRep : R2 := fun x y H Q => ∃ l k xs, x = .ref l ∧ y = .int k ∧ H l = some (.lst xs) ∧ -(2 ^ 63) ≤ k ∧ k < 2 ^ 63 ∧ xs.length * k.toNat ≤ sizeLine ∧
  ∀ p, H p = none → Q (.ref p) (upd H p (.lst (List.replicate k.toNat xs).flatten))
theorem len_rep {α : Type} (xs : List α) (k : Nat) : (List.replicate k xs).flatten.length = k * xs.length := by
  induction k with
  | zero => simp
  | succ k ih => rw [List.replicate_succ, List.flatten_cons, List.length_append, ih, Nat.succ_mul, Nat.add_comm]
theorem op_rep : OpR X (binaryOp .Mult) rRep := by
  intro pins s σ H x y v u Q I rx ry h
  obtain ⟨l, k, xs, rfl, rfl, hH, h1, h2, hz, q⟩ := h
  cases rx
  obtain ⟨t, rfl⟩ := ry
  obtain ⟨z, its, n, r, hl, e⟩ := I.lstM hH
  have hlen : its.toArray.size * k.toNat ≤ sizeLine := by rw [List.size_toArray, ← hl]; exact hz
  have hcap : ¬ its.toArray.size * k.toNat > (2 ^ 63 - 1) / 8 := by
    have : (sizeLine : Nat) ≤ (2 ^ 63 - 1) / 8 := by decide
    omega
  have hfit : ¬ (!Builtin.List.listFitsIndex k) = true := by
    rw [fitsIndex_both h1 h2]
    exact Bool.false_ne_true
  have hlong : ¬ Builtin.List.listTooLong (its.toArray.size * k.toNat) = true := by
    rw [notLongL hlen]
    exact Bool.false_ne_true
  have hnew : List.foldl (fun x1 x2 => x1 ++ x2) #[] (List.replicate (if its.toArray.isEmpty = true then 0 else k.toNat) its.toArray) = (List.replicate k.toNat its).flatten.toArray := by
    have f0 : ∀ m : Nat, List.foldl (fun x1 x2 => x1 ++ x2) #[] (List.replicate m its.toArray) = (List.replicate m its).flatten.toArray := fun m => by
      have := foldl_rep its m []
      rw [List.nil_append] at this
      exact this
    rw [f0]
    cases its with
    | nil => simp
    | cons a r' => rw [if_neg (by simp)]
  refine wpAny_binaryOp_repeat_ref (T := "list") (U := "int") (by decide) ⟨_, e, rfl⟩ (fun s' => typeIs_int s' k t) noFill_list_mul F.fills_int_mul F.slot_int_rmul repeat_list F.slot_int_index.lookup
    (call_meets F.slot_int_rmul (typeIs_int s k t) F.entry_int_rmul (F.args_int_rmul_2 _ _) (int___rmul___int_list k t l its.toArray n)
      ⟨e, rfl, ⟨_, e, rfl⟩, call_meets F.slot_list_mul ⟨_, e, rfl⟩ F.entry_list_mul (F.args_list_mul_2 _ _) (AutoListH.list___mul___list_int_3 l its.toArray n k t hfit hcap hlong) ⟨e, ?_⟩⟩)
  rw [hnew]
  exact ⟨.ref _, _, I.lnew (t' := s.toks) (r.rep k.toNat) (by rw [len_rep, Nat.mul_comm]; exact hz), rfl, q _ I.fresh⟩

/-! ### del xs[i] -/
end

/-! ### xs[a:b] = ys -/
section
variable {prog : Program} {w : World} {A : Around} {E : Value → Shared → Prop} {s : Shared}
end

section
variable {X : Cx}
end
end L2

namespace L2
open PySem PySem.Spec PyProof.Rows

/-! ### the library's walks over a list of ints, kept objects alone -/
section
variable {prog : Program} {w : World} {A : Around} {E : Value → Shared → Prop} {s : Shared} {l : Addr} {its : List Value} {ns : List Int} {Q : Value → Shared → Prop}
end

/-! ### the calls, by values (CallR of 03t; MtR of 06l) -/
section
variable {X : Cx}
/-! sorted, sort (fewer than 64 items: the library's own bound) -/
end

/-! ### list.index, flat items -/
section
variable {X : Cx}
end

/-! ### type(x) of an own instance; is, is not of a module's class -/
section
variable {X : Cx}
end

/-! ### any(xs), all(xs) of a list of bools -/
section
variable {X : Cx}
end

/-! ### == and != of data at any depth: none, bools, ints, texts, lists, tuples -/
mutual
inductive Dp (K : PySem.W.Frag) (H : Hp) : V → PyData → Prop
  | non : Dp K H .non .none
  | bl (b : Bool) : Dp K H (.bl b) (.bool b)
  | int (i : Int) : Dp K H (.int i) (.int i)
  | str (x : Str) : Dp K H (.str x) (.str x)
  | lst {a : Addr} {xs : List V} {ds : List PyData} : SqL K H a xs → DpAll K H xs ds → Dp K H (.ref a) (.list ds)
  | tup {a : Addr} {xs : List V} {ds : List PyData} : SqT K H a xs → DpAll K H xs ds → Dp K H (.ref a) (.tuple ds)
inductive DpAll (K : PySem.W.Frag) (H : Hp) : List V → List PyData → Prop
  | nil : DpAll K H [] []
  | cons {v : V} {vs : List V} {d : PyData} {ds : List PyData} : Dp K H v d → DpAll K H vs ds → DpAll K H (v :: vs) (d :: ds)
end
section
variable {X : Cx} {pins : List (Addr × Obj)} {σ : St} {H : Hp} {s : Shared}
mutual
theorem Dp.reads (I : Inv X pins σ H s) : ∀ (d : PyData) (v : V) (u : Value), Dp X.K H v d → RelV v u → ∃ as, Reads s.heap u d as
  | .none, _, _, h, r => by
    cases h
    cases r
    exact ⟨_, Reads.none⟩
  | .bool b, _, _, h, r => by
    cases h
    cases r
    exact ⟨_, Reads.bool b⟩
  | .int i, _, _, h, r => by
    cases h
    obtain ⟨t, rfl⟩ := r
    exact ⟨_, Reads.int i t⟩
  | .str x, _, _, h, r => by
    cases h
    obtain ⟨t, rfl⟩ := r
    exact ⟨_, Reads.str x t⟩
  | .list ds, _, _, h, r => by
    cases h with
    | lst hs ha =>
      cases r
      obtain ⟨its, rv, ⟨o, n, ho, hc, _, hd⟩, _⟩ := I.list hs
      obtain ⟨as, hr⟩ := Dp.readsAll I ds _ its ha rv
      exact ⟨_, Reads.list ho hc hd hr⟩
  | .tuple ds, _, _, h, r => by
    cases h with
    | tup hs ha =>
      cases r
      obtain ⟨its, rv, ⟨o, ho, hc, n, hd⟩, _⟩ := I.tuple hs
      obtain ⟨as, hr⟩ := Dp.readsAll I ds _ its ha rv
      exact ⟨_, Reads.tuple ho hc hd hr⟩
  | .dict _, _, _, h, _ => by cases h
theorem Dp.readsAll (I : Inv X pins σ H s) : ∀ (ds : List PyData) (vs : List V) (us : List Value), DpAll X.K H vs ds → Vals vs us → ∃ as, ReadsAll s.heap us ds as
  | [], _, _, h, r => by
    cases h
    cases r
    exact ⟨_, ReadsAll.nil⟩
  | d :: ds, _, _, h, r => by
    cases h with
    | cons h1 h2 =>
      cases r with
      | cons r1 r2 =>
        obtain ⟨as, q1⟩ := Dp.reads I d _ _ h1 r1
        obtain ⟨bs, q2⟩ := Dp.readsAll I ds _ _ h2 r2
        exact ⟨_, ReadsAll.cons q1 q2⟩
end
end
section
variable {X : Cx}
end
end L2

namespace L2
open PySem PySem.Spec PyProof.Rows
abbrev CellAt (h : Heap) (c : Addr) (v : Option Value) : Prop := h.IsCell c v
def relS (scope sc : Scope) : Scope :=
  { scope with names := scope.names.map fun (n, k) => if (k == .free && sc.kind == .function && sc.names.lookup n == some .cell) then (n, .cell) else (n, k) }

def cloFrom (cells : List (Str × Addr)) : List (Str × NameKind) → List (Str × Addr) → List (Str × Addr)
  | [], acc => acc
  | (n, k) :: r, acc => if k == .free then cloFrom cells r ((n, (cells.lookup n).getD 0) :: acc) else cloFrom cells r acc

theorem closure_loop (env : Env) (f : Str × NameKind → List (Str × Addr) → Sem (ForInStep (List (Str × Addr))))
    (hf : ∀ n k c, f (n, k) c = if k == .free then (do let a ← cellOf env n; pure (.yield ((n, a) :: c))) else pure (.yield c)) :
    ∀ (names : List (Str × NameKind)) (acc : List (Str × Addr)), (∀ y ∈ names, y.2 = .free → ∃ c, env.cells.lookup y.1 = some c) → forIn names acc f = pure (cloFrom env.cells names acc)
  | [], acc, _ => by rw [List.forIn_nil]; rfl
  | (n, k) :: r, acc, h => by
    rw [List.forIn_cons, hf]
    have ih := fun acc => closure_loop env f hf r acc fun y hy => h y (List.mem_cons_of_mem _ hy)
    unfold cloFrom
    by_cases hk : (k == NameKind.free) = true
    · rw [if_pos hk, if_pos hk]
      obtain ⟨c, hc⟩ := h (n, k) List.mem_cons_self (by simpa using hk)
      have e : cellOf env n = pure c := by unfold cellOf; rw [hc]
      rw [e]
      have e2 : (env.cells.lookup n).getD 0 = c := by rw [hc]; rfl
      rw [e2]
      exact ih _
    · rw [if_neg hk, if_neg hk]
      exact ih _
theorem closure_ok {scope : Scope} {env : Env} (h : ∀ y ∈ scope.names, y.2 = .free → ∃ c, env.cells.lookup y.1 = some c) : closureFor scope env = pure (cloFrom env.cells scope.names []) := by
  simp only [closureFor]
  rw [closure_loop env _ (fun n k c => rfl) scope.names [] h]
  rfl

theorem mem_lookup {α : Type} : ∀ {l : List (Str × α)} {n : Str} {c : α}, (n, c) ∈ l → ∃ c', l.lookup n = some c'
  | (k, v) :: r, n, c, h => by
    rw [List.lookup_cons]
    cases hb : n == k with
    | true => exact ⟨_, rfl⟩
    | false =>
      rcases List.mem_cons.mp h with e | h
      · cases e; simp at hb
      · exact mem_lookup h

theorem cloFrom_mem {cells : List (Str × Addr)} : ∀ {names : List (Str × NameKind)} {acc : List (Str × Addr)} {n : Str} {c : Addr}, (n, c) ∈ cloFrom cells names acc → (n, c) ∈ acc ∨ ((n, .free) ∈ names ∧ c = (cells.lookup n).getD 0)
  | [], _, _, _, h => .inl h
  | (m, k) :: r, acc, n, c, h => by
    unfold cloFrom at h
    split at h
    · rename_i hk
      have hk : k = .free := by simpa using hk
      rcases cloFrom_mem h with h | ⟨h1, h2⟩
      · rcases List.mem_cons.mp h with e | h
        · cases e; exact .inr ⟨hk ▸ List.mem_cons_self, rfl⟩
        · exact .inl h
      · exact .inr ⟨List.mem_cons_of_mem _ h1, h2⟩
    · rcases cloFrom_mem h with h | ⟨h1, h2⟩
      · exact .inl h
      · exact .inr ⟨List.mem_cons_of_mem _ h1, h2⟩
theorem cloFrom_acc {cells : List (Str × Addr)} : ∀ {names : List (Str × NameKind)} {acc : List (Str × Addr)} {p : Str × Addr}, p ∈ acc → p ∈ cloFrom cells names acc
  | [], _, _, h => h
  | (m, k) :: r, acc, p, h => by
    unfold cloFrom
    split
    · exact cloFrom_acc (List.mem_cons_of_mem _ h)
    · exact cloFrom_acc h
theorem cloFrom_has {cells : List (Str × Addr)} : ∀ {names : List (Str × NameKind)} {acc : List (Str × Addr)} {n : Str}, (n, .free) ∈ names → (n, (cells.lookup n).getD 0) ∈ cloFrom cells names acc
  | (m, k) :: r, acc, n, h => by
    unfold cloFrom
    rcases List.mem_cons.mp h with e | h
    · cases e
      exact cloFrom_acc List.mem_cons_self
    · split
      · exact cloFrom_has h
      · exact cloFrom_has h

theorem cells_mem : ∀ {names : List (Str × NameKind)} {h : Heap} {acc : List (Str × Addr)} {x : Str} {c : Addr}, (x, c) ∈ cellsFrom h.objs.size names acc →
    (x, c) ∈ acc ∨ ((x, .cell) ∈ names ∧ h.objs.size ≤ c ∧ CellAt (pushCells h names) c none)
  | [], _, _, _, _, h => .inl h
  | (n, k) :: r, h, acc, x, c, hm => by
    unfold cellsFrom at hm
    unfold pushCells
    split at hm
    · rename_i hk
      rw [if_pos hk]
      have hk : k = .cell := by simpa using hk
      rw [← Heap.size_push h { cls := .type "cell", data := .cell none }] at hm
      rcases cells_mem hm with hm | ⟨h1, h2, h3⟩
      · rcases List.mem_cons.mp hm with e | hm
        · cases e
          exact .inr ⟨hk ▸ List.mem_cons_self, Nat.le_refl _, _, pushCells_keeps r _ _ _ (Heap.get?_push_size _ rfl), rfl⟩
        · exact .inl hm
      · rw [Heap.size_push] at h2
        exact .inr ⟨List.mem_cons_of_mem _ h1, Nat.le_of_succ_le h2, h3⟩
    · rename_i hk
      rw [if_neg hk]
      rcases cells_mem hm with hm | ⟨h1, h2, h3⟩
      · exact .inl hm
      · exact .inr ⟨List.mem_cons_of_mem _ h1, h2, h3⟩
theorem cells_acc : ∀ {names : List (Str × NameKind)} {n : Nat} {acc : List (Str × Addr)} {p : Str × Addr}, p ∈ acc → p ∈ cellsFrom n names acc
  | [], _, _, _, h => h
  | (m, k) :: r, n, acc, p, h => by
    unfold cellsFrom
    split
    · exact cells_acc (List.mem_cons_of_mem _ h)
    · exact cells_acc h
theorem cells_has : ∀ {names : List (Str × NameKind)} {n : Nat} {acc : List (Str × Addr)} {x : Str}, (x, .cell) ∈ names → ∃ c, (x, c) ∈ cellsFrom n names acc
  | (m, k) :: r, n, acc, x, h => by
    unfold cellsFrom
    rcases List.mem_cons.mp h with e | h
    · cases e
      exact ⟨n, cells_acc List.mem_cons_self⟩
    · split
      · exact cells_has h
      · exact cells_has h
theorem cells_inj : ∀ {names : List (Str × NameKind)} {h : Heap} {acc : List (Str × Addr)} {x y : Str} {c : Addr}, (∀ p ∈ acc, p.2 < h.objs.size) → (∀ x y c, (x, c) ∈ acc → (y, c) ∈ acc → x = y) →
    (x, c) ∈ cellsFrom h.objs.size names acc → (y, c) ∈ cellsFrom h.objs.size names acc → x = y
  | [], _, _, _, _, _, _, hi, h1, h2 => hi _ _ _ h1 h2
  | (n, k) :: r, h, acc, x, y, c, hl, hi, h1, h2 => by
    unfold cellsFrom at h1 h2
    split at h1
    · rename_i hk
      rw [if_pos hk] at h2
      rw [← Heap.size_push h { cls := .type "cell", data := .cell none }] at h1 h2
      refine cells_inj (h := h.push _) (fun p hp => ?_) (fun x y c a b => ?_) h1 h2
      · rw [Heap.size_push]
        rcases List.mem_cons.mp hp with rfl | hp
        · exact Nat.lt_succ_self _
        · exact Nat.lt_succ_of_lt (hl p hp)
      · rcases List.mem_cons.mp a with e | a <;> rcases List.mem_cons.mp b with e' | b
        · cases e; cases e'; rfl
        · cases e; exact absurd (hl _ b) (Nat.lt_irrefl _)
        · cases e'; exact absurd (hl _ a) (Nat.lt_irrefl _)
        · exact hi _ _ _ a b
    · rename_i hk
      rw [if_neg hk] at h2
      exact cells_inj hl hi h1 h2

theorem newEnv_comp {M : Model} {A : Around} {E : Value → Shared → Prop} {s : Shared} {scope : Scope} {globals : Addr} {closure : List (Str × Addr)} {qual : Str} {func : Option Addr} {code : Value} {around : Env} {builtins : Addr} {Q : Env → Shared → Prop}
    (h : Q (newEnv scope s.heap.objs.size globals (cellsFrom (s.heap.objs.size + 1) scope.names closure) qual func code (some around) builtins)
      { s with heap := pushCells (s.heap.push { cls := .type "dict", data := .dict #[] }) scope.names }) :
    wpAny M A (newFunctionEnv scope globals closure [] qual func code (some around) builtins) Q E s := by
  simp only [newFunctionEnv, Option.isSome_some, if_true]
  refine wpAny_bind (wpAny_alloc ?_)
  refine wpAny_bind (wpAny_layCells _ (fun n k c => rfl) scope.names closure _ _ ?_)
  rw [show ({ s with heap := s.heap.push { cls := .type "dict", data := .dict #[] } } : Shared).heap.objs.size = s.heap.objs.size + 1 from Heap.size_push ..]
  rw [List.forIn_nil]
  exact wpAny_bind (wpAny_pure (wpAny_pure h))

/-- every name of the written scope, in the scope that runs -/
theorem lookup_relS {sc : Scope} : ∀ {names : List (Str × NameKind)} {x : Str} {k : NameKind},
    (names.map fun (n, k) => if (k == NameKind.free && sc.kind == .function && sc.names.lookup n == some .cell) then (n, NameKind.cell) else (n, k)).lookup x = some k →
    ∃ k', names.lookup x = some k' ∧ (k = k' ∨ (k' = .free ∧ k = .cell))
  | [], _, _, h => by simp at h
  | (n, k₀) :: r, x, k, h => by
    have ih := @lookup_relS sc r x k
    have h' : List.lookup x ((if (k₀ == NameKind.free && sc.kind == .function && sc.names.lookup n == some .cell) = true then (n, NameKind.cell) else (n, k₀)) :: (r.map _)) = some k := h
    cases hx : x == n with
    | true =>
      simp only [List.lookup_cons, hx]
      by_cases hc : (k₀ == NameKind.free && sc.kind == .function && sc.names.lookup n == some .cell) = true
      · rw [if_pos hc] at h'
        simp only [List.lookup_cons, hx] at h'
        cases h'
        simp only [Bool.and_eq_true, beq_iff_eq] at hc
        exact ⟨k₀, rfl, .inr ⟨hc.1.1, rfl⟩⟩
      · rw [if_neg hc] at h'
        simp only [List.lookup_cons, hx] at h'
        cases h'
        exact ⟨_, rfl, .inl rfl⟩
    | false =>
      simp only [List.lookup_cons, hx]
      by_cases hc : (k₀ == NameKind.free && sc.kind == .function && sc.names.lookup n == some .cell) = true
      · rw [if_pos hc] at h'
        simp only [List.lookup_cons, hx] at h'
        exact ih h'
      · rw [if_neg hc] at h'
        simp only [List.lookup_cons, hx] at h'
        exact ih h'
/-- the names of a comprehension's block: its own (with their places in N), or captured -/
structure BlkOk (N : List Str) (sc scope : Scope) (own : List (Str × Nat)) : Prop where
  kind : scope.kind = .function
  uniq : ∀ y ∈ scope.names, scope.names.lookup y.1 = some y.2
  ix : ∀ p ∈ own, N[p.2]? = some p.1
  free : ∀ y ∈ scope.names, y.2 = .free → sc.names.lookup y.1 = some .cell ∨ sc.names.lookup y.1 = some .free
  own : ∀ y ∈ scope.names, y.2 = .local ∨ y.2 = .cell → y.1 ∈ own.map (·.1) ∨ y.1 ∉ N
/-- the slots of the block's own names forgotten -/
def wipe (σ : St) : List Nat → St
  | [] => σ
  | v :: vs => (wipe σ vs).set v none
theorem wipe_length (σ : St) : ∀ vs : List Nat, (wipe σ vs).length = σ.length
  | [] => rfl
  | v :: vs => by unfold wipe; rw [List.length_set, wipe_length σ vs]
theorem wipe_some {σ : St} {i : Nat} {x : V} : ∀ {vs : List Nat}, (wipe σ vs)[i]? = some (some x) → σ[i]? = some (some x) ∧ i ∉ vs
  | [], h => ⟨h, by simp⟩
  | v :: vs, h => by
    unfold wipe at h
    by_cases hi : v = i
    · subst hi
      by_cases hv : v < (wipe σ vs).length
      · rw [List.getElem?_set_self hv] at h; cases h
      · rw [List.getElem?_eq_none (by simpa using hv)] at h; cases h
    · rw [List.getElem?_set_ne hi] at h
      obtain ⟨h1, h2⟩ := wipe_some h
      exact ⟨h1, by simp only [List.mem_cons, not_or]; exact ⟨fun e => hi e.symm, h2⟩⟩

/-- the context of a block that starts at s, its iterator's objects at fp -/
abbrev Cx.blk (X : Cx) (s : Shared) (H : Hp) (scope : Scope) (cenv : Env) (fp : List Addr) : Cx := { X with s_0 := s, H_0 := H, env := cenv, outer := X.stack, ex := fp, fn := fun x => scope.names.lookup x == some .cell, pn := [], xe := fun _ _ => False }
section
variable {X : Cx} {pins : List (Addr × Obj)} {σ : St} {H : Hp} {s : Shared}
theorem block_start {scope : Scope} {own : List (Str × Nat)} {fp : List Addr} (I : Inv X pins σ H s) (ok : BlkOk X.N X.env.scope scope own) (hN : X.N.Nodup) (hfp : ∀ b ∈ fp, FpOk X pins H b ∧ b < s.heap.objs.size) :
    Inv (X.blk s H scope (compEnvC scope (cellsFrom (s.heap.objs.size + 1) scope.names (cloFrom X.env.cells scope.names [])) s.heap.objs.size X.env) fp) [] (wipe σ (own.map (·.2))) H { s with heap := pushCells (s.heap.push { cls := .type "dict", data := .dict #[] }) scope.names } := by
  have hfree : ∀ y ∈ scope.names, y.2 = .free → ∃ c, X.env.cells.lookup y.1 = some c := fun y hy e => by
    rcases ok.free y hy e with k | k
    · exact I.ok.has _ (.inl k)
    · exact I.ok.has _ (.inr k)
  generalize hcenv : compEnvC scope (cellsFrom (s.heap.objs.size + 1) scope.names (cloFrom X.env.cells scope.names [])) s.heap.objs.size X.env = cenv
  have kp : ∀ b o, s.heap.get? b = some o → (pushCells (s.heap.push { cls := .type "dict", data := .dict #[] }) scope.names).get? b = some o := fun b o e => pushCells_keeps _ _ _ _ (Heap.get?_push_of_some _ e)
  have hL : cenv.locals = s.heap.objs.size := by rw [← hcenv]; rfl
  have hcl : cenv.cells = cellsFrom (s.heap.objs.size + 1) scope.names (cloFrom X.env.cells scope.names []) := by rw [← hcenv]; rfl
  have hsc : cenv.scope = relS scope X.env.scope := by rw [← hcenv]; rfl
  rw [← Heap.size_push s.heap { cls := .type "dict", data := .dict #[] }] at hcl
  have cm : ∀ {y c}, (y, c) ∈ cloFrom X.env.cells scope.names [] → X.env.cells.lookup y = some c ∧ c < s.heap.objs.size := fun {y c} hm => by
    rcases cloFrom_mem hm with hm | ⟨h1, rfl⟩
    · cases hm
    · obtain ⟨c, hc⟩ := hfree _ h1 rfl
      rw [hc]
      obtain ⟨w, z⟩ := I.cell _ _ hc
      exact ⟨rfl, z.lt⟩
  have mem : ∀ {y c}, cenv.cells.lookup y = some c → (X.env.cells.lookup y = some c ∧ c < s.heap.objs.size) ∨ (s.heap.objs.size + 1 ≤ c ∧ CellAt (pushCells (s.heap.push { cls := .type "dict", data := .dict #[] }) scope.names) c none) := fun {y c} e => by
    rw [hcl] at e
    rcases cells_mem (PySem.mem_of_lookup e) with hm | ⟨_, h2, h3⟩
    · exact .inl (cm hm)
    · rw [Heap.size_push] at h2; exact .inr ⟨h2, h3⟩
  have look : ∀ {y}, scope.names.lookup y = some .free → ∃ c, cenv.cells.lookup y = some c ∧ X.env.cells.lookup y = some c := fun {y} hl => by
    have hy : (y, NameKind.free) ∈ scope.names := PySem.mem_of_lookup hl
    obtain ⟨c', e'⟩ := mem_lookup (cells_acc (names := scope.names) (n := (s.heap.push { cls := .type "dict", data := .dict #[] }).objs.size) (cloFrom_has (cells := X.env.cells) (acc := []) hy))
    rw [← hcl] at e'
    refine ⟨c', e', ?_⟩
    rw [hcl] at e'
    rcases cells_mem (PySem.mem_of_lookup e') with hm | ⟨h1, _, _⟩
    · exact (cm hm).1
    · have := ok.uniq _ h1
      rw [hl] at this; cases this
  have okB : (X.blk s H scope cenv fp).Ok := by
    refine ⟨I.ok.mod, by show cenv.scope.kind = _; rw [hsc]; exact ok.kind, by show cenv.globals = _; rw [← hcenv]; exact I.ok.glob, by show cenv.builtins = _; rw [← hcenv]; exact I.ok.blt, by show s.heap.objs.size ≤ cenv.locals; rw [hL]; exact Nat.le_refl _,
      fun y z c e1 e2 => ?_, fun y hy => ?_, fun y c z e => ?_, I.ok.hd, I.ok.frames, .inl rfl, fun b hb => ⟨?_, fun y c e z => ?_⟩, I.bs, Nat.le_trans I.ok.bsz I.sz, fun b o e hb => ?_, fun b hb z => ?_, I.stack, I.stkFree⟩
    · have e1 : cenv.cells.lookup y = some c := e1
      have e2 : cenv.cells.lookup z = some c := e2
      rw [hcl] at e1 e2
      refine cells_inj (fun p hp => ?_) (fun y z c a b => I.ok.inj y z c (cm a).1 (cm b).1) (PySem.mem_of_lookup e1) (PySem.mem_of_lookup e2)
      rw [Heap.size_push]
      exact Nat.lt_succ_of_lt (cm (y := p.1) (c := p.2) hp).2
    · show ∃ c, cenv.cells.lookup y = some c
      have key : ∀ k, cenv.kindOf y = some k → (k = .cell ∨ k = .free) → ∃ c, cenv.cells.lookup y = some c := fun k hk hk' => by
        unfold Env.kindOf at hk
        rw [hsc] at hk
        obtain ⟨k', e, r⟩ := lookup_relS hk
        have : k' = .cell ∨ k' = .free := by
          rcases r with rfl | ⟨rfl, _⟩
          · exact hk'
          · exact .inr rfl
        rcases this with rfl | rfl
        · obtain ⟨c, hm⟩ := cells_has (n := (s.heap.push { cls := .type "dict", data := .dict #[] }).objs.size) (acc := cloFrom X.env.cells scope.names []) (PySem.mem_of_lookup e)
          obtain ⟨c', e'⟩ := mem_lookup hm
          exact ⟨c', by rw [hcl]; exact e'⟩
        · obtain ⟨c, h1, _⟩ := look e
          exact ⟨c, h1⟩
      rcases hy with hy | hy
      · exact key _ hy (.inl rfl)
      · exact key _ hy (.inr rfl)
    · have z : (scope.names.lookup y == some NameKind.cell) = true := z
      have z : scope.names.lookup y = some .cell := by simpa using z
      have e : cenv.cells.lookup y = some c := e
      rw [hcl] at e
      rcases cells_mem (PySem.mem_of_lookup e) with hm | ⟨_, h2, _⟩
      · rcases cloFrom_mem hm with hm | ⟨h1, _⟩
        · cases hm
        · have q := ok.uniq _ h1
          rw [z] at q; cases q
      · rw [Heap.size_push] at h2
        exact Nat.le_of_succ_le h2
    · show b ≠ cenv.locals
      rw [hL]; exact Nat.ne_of_lt (hfp b hb).2
    · have e : cenv.cells.lookup y = some c := e
      rcases mem e with ⟨h1, _⟩ | ⟨h1, _⟩
      · exact (hfp b hb).1.2.2.2.2.1 y c h1 z
      · have h2 : s.heap.objs.size + 1 ≤ b := by rw [← z]; exact h1
        exact absurd (Nat.lt_of_lt_of_le (hfp b hb).2 (Nat.le_of_succ_le h2)) (Nat.lt_irrefl _)
    · rcases (hfp b hb).1.2.2.2.1 with z | z
      · exact I.ok.noex b o e z
      · exact absurd (Nat.lt_of_lt_of_le (Heap.lt_size e) (Nat.le_trans I.ok.bsz z)) (Nat.lt_irrefl _)
    · rcases List.mem_cons.mp (I.stkSub b z) with z | z
      · exact (hfp b hb).1.2.1 z
      · exact (hfp b hb).1.2.2.1 z
  refine ⟨okB, rfl, I.bare, Un.kept kp, ⟨fun _ => none, ?_, fun i y av e1 e2 e3 => ?_⟩, fun y c e => ?_, ?_, fun y c e => ?_, fun p hp => ?_, I.hok.kept kp, by rw [wipe_length]; exact I.len⟩
  · show Heap.Ns _ cenv.locals _
    rw [hL]
    exact Heap.Ns.keeps (Heap.Ns.new ..) fun b o e => pushCells_keeps _ _ _ _ e
  · obtain ⟨e2, hne⟩ := wipe_some e2
    have hfr : scope.names.lookup y = some .free ∧ (cenv.kindOf y = some .cell ∨ cenv.kindOf y = some .free) := by
      have key : ∀ k, cenv.scope.names.lookup y = some k → k = .local ∨ k = .cell ∨ k = .free → scope.names.lookup y = some .free ∧ (cenv.kindOf y = some .cell ∨ cenv.kindOf y = some .free) := fun k hk hk' => by
        have hk0 := hk
        rw [hsc] at hk
        obtain ⟨k', e, r⟩ := lookup_relS hk
        have no : ¬ (k' = .local ∨ k' = .cell) := fun hh => by
          rcases ok.own _ (PySem.mem_of_lookup e) hh with e' | e'
          · obtain ⟨p, hp, hpy⟩ := List.mem_map.mp e'
            have e3 := ok.ix p hp
            have : p.1 = y := hpy
            rw [this] at e3
            exact hne (List.mem_map.mpr ⟨p, hp, nodup_ix hN e3 e1⟩)
          · exact e' (List.mem_of_getElem? e1)
        rcases r with rfl | ⟨rfl, rfl⟩
        · rcases hk' with rfl | rfl | rfl
          · exact absurd (.inl rfl) no
          · exact absurd (.inr rfl) no
          · exact ⟨e, .inr hk0⟩
        · exact ⟨e, .inl hk0⟩
      have e3 : Vis cenv.scope y := e3
      rcases e3 with e3 | e3 | e3
      · exact key _ e3 (.inl rfl)
      · exact key _ e3 (.inr (.inl rfl))
      · exact key _ e3 (.inr (.inr rfl))
    obtain ⟨m, hn, hl⟩ := I.loc
    have hvis : Vis X.env.scope y := (ok.free _ (PySem.mem_of_lookup hfr.1) rfl).elim (fun k => .inr (.inl k)) (fun k => .inr (.inr k))
    obtain ⟨w, r, q⟩ := hl i y av e1 e2 hvis
    refine ⟨w, r, .inr ⟨hfr.2, ?_⟩⟩
    obtain ⟨c, h1, h2⟩ := look hfr.1
    rcases q with ⟨k, _⟩ | ⟨_, c', e', z⟩
    · have k : X.env.scope.names.lookup y = some .local := k
      rcases ok.free _ (PySem.mem_of_lookup hfr.1) rfl with k' | k' <;> rw [show X.env.scope.names.lookup y = _ from k'] at k <;> cases k
    · rw [h2] at e'; cases e'
      exact ⟨c, h1, z.keeps kp⟩
  · have e : cenv.cells.lookup y = some c := e
    rcases mem e with ⟨h1, _⟩ | ⟨_, z⟩
    · obtain ⟨w, z⟩ := I.cell y c h1
      exact ⟨w, z.keeps kp⟩
    · exact ⟨_, z⟩
  · show H cenv.locals = none
    rw [hL]; exact I.hok.fresh (Nat.le_refl _)
  · have e : cenv.cells.lookup y = some c := e
    rcases mem e with ⟨h1, _⟩ | ⟨h1, _⟩
    · exact I.freeC y c h1
    · exact I.hok.fresh (Nat.le_of_succ_le h1)
  · exact absurd (show p ∈ ([] : List (Addr × Obj)) ++ [] from hp) (by simp)

/-- an item appended to a tracked list -/
theorem app_ok {E : Value → Shared → Prop} {D : Addr} {xs : List V} {y : V} {v : Value} {Q : Value → Shared → Prop} (I : Inv X pins σ H s) (hD : H D = some (.lst xs)) (hz : xs.length < sizeLine) (r : RelV y v)
    (h : ∀ s', Inv X pins σ (upd H D (.lst (xs ++ [y]))) s' → Q .none s') : wpAny (model X.prog X.w) X.A (call (.builtin "list.append") [.ref D, v]) Q E s := by
  obtain ⟨hz', its, n, ri, e⟩ := I.hok D _ hD
  have hl := ri.length
  refine append_at (hsz := by rw [List.size_toArray]; omega) e fun h' sb ho' => ?_
  refine h { s with heap := h' } (I.write (t' := s.toks) (by rw [hD]; trivial) (.inl rfl) (fun b u hb q => (sb.2 b hb).trans q) ⟨_, ho'⟩ ⟨by rw [List.length_append]; exact hz, its ++ [v], n + 1, ri.append (.cons r .nil), ?_⟩)
  rw [ho']
  simp

/-- a clause's tests -/
def PTs (X : Cx) (ifs : List Expr) (t : TT) : Prop :=
  ∀ (pins : List (Addr × Obj)) (s : Shared) (σ : St) (H : Hp) (Q : Bool → Hp → Prop), Inv X pins σ H s → t σ H Q →
    wpAny (model X.prog X.w) X.A (forIn ifs true fun c r => if r = true then do let ok ← isTrue c X.env (eval c X.env); pure (ForInStep.yield ok) else pure (ForInStep.yield r)) (TP X pins σ Q) X.xe s
theorem pts_one {c : Expr} {t : TT} (h : PT X c t) : PTs X [c] t := fun pins s σ H Q I hw => wpAny_tests_one (h pins s σ H Q I hw)
end

theorem thnF {α : Type} {t : Sem α} {Q Q' : α → Shared → Prop} {M : Model} {A : Around} {E : Value → Shared → Prop} {s : Shared} (h : wpAny M A t Q (fun _ _ => False) s) (hQ : ∀ a s, Q a s → Q' a s) : wpAny M A t Q' E s := wpAny_mono h hQ fun _ _ z => False.elim z

/-- the loop of a list comprehension's block, the target of any form (codeAny_compLoop_tests asks a target that no tuple goes to; statement and proof follow it, PyProof/CompMap.lean:41-61, with the step letOwnedTupleGo kept) -/
theorem compLoop_any {prog : Program} {w : World} {A : Around} {R : Result → Shared → Prop} {s : Shared} {elt target iter : Expr} {ifs : List Expr} {scope : Scope} {pos : Pos} {it acc : Value} {env : Env} (I : Nat → Shared → Prop)
    (turn : ∀ n s, I n s → wpAny (model prog w) A (pyNext it) (fun r s₁ => match r with
      | none => R (.ok .next) s₁
      | some v => wpAny (model prog w) A (letOwnedTupleGo target it v) (fun _ s₁' => wpAny (model prog w) A (assign target env v) (fun _ s₂ =>
          wpAny (model prog w) A (forIn ifs true fun c r => if r = true then do let ok ← isTrue c env (eval c env); pure (ForInStep.yield ok) else pure (ForInStep.yield r)) (fun ok s₃ =>
            if ok = true then wpAny (model prog w) A (eval elt env) (fun x s₄ =>
              wpAny (model prog w) A (call (.builtin "list.append") [acc, x]) (fun _ s₅ => ∃ m, m < n ∧ I m s₅) (notedBy (model prog w) A env fun e s' => R (.error e) s') s₄) (notedBy (model prog w) A env fun e s' => R (.error e) s') s₃
            else ∃ m, m < n ∧ I m s₃) (notedBy (model prog w) A env fun e s' => R (.error e) s') s₂) (notedBy (model prog w) A env fun e s' => R (.error e) s') s₁') (notedBy (model prog w) A env fun e s' => R (.error e) s') s₁) (notedBy (model prog w) A env fun e s' => R (.error e) s') s)
    (n : Nat) (h : I n s) :
    codeAny (model prog w) A (.compLoop (.ListComp elt [⟨target, iter, ifs, 0⟩] scope pos) 0 it acc env) R s := by
  refine codeAny_loop rfl I (fun n s hI => ?_) n h
  show wpAny _ A ((compTurn (.ListComp elt [⟨target, iter, ifs, 0⟩] scope pos) 0 it acc env).onRaise (fun x => do noteFrame x env; theTreesLotGoes x)) _ _ s
  refine wpAny_noted ?_
  rw [compTurn_list]
  refine wpAny_bind (wpAny_standAt (wpAny_bind (wpAny_mono (turn n s hI) (fun r s₁ h₁ => ?_) fun _ _ h' => h')))
  cases r with
  | none => exact wpAny_pure h₁
  | some v =>
    refine wpAny_bind (wpAny_mono h₁ (fun _ s₁' h₁' => ?_) fun _ _ h' => h')
    refine wpAny_bind (wpAny_mono h₁' (fun _ s₂ h₂ => wpAny_bind (wpAny_mono h₂ (fun ok s₃ h₃ => ?_) fun _ _ h' => h')) fun _ _ h' => h')
    cases ok with
    | false => exact wpAny_pure ⟨rfl, h₃⟩
    | true =>
      exact wpAny_bind (wpAny_bind (wpAny_mono h₃ (fun x s₄ h₄ => wpAny_bind (wpAny_mono h₄ (fun _ s₅ h₅ => wpAny_pure (wpAny_pure ⟨rfl, h₅⟩)) fun _ _ h' => h')) fun _ _ h' => h'))

section
variable {X : Cx}
/-- [elt for target in iter if ..]: D the new list; W by the turn and a measure, Nx what a turn is to reach -/
def tLc (wi : TI) (g : TG) (tt : TT) (te : TE) (vs : List Nat) : TE := fun σ H Q => wi σ H fun J H1 => ∀ D, H1 D = none → ∃ W : Nat → Nat → Hp → Prop, (∃ m, W 0 m (upd H1 D (.lst []))) ∧ ∀ i m H, W i m H →
  (J.stop i H ∧ Q (.ref D) H) ∨ (J.go i H ∧ ∃ Nx : Hp → Prop, (∀ H', Nx H' → ∃ m', m' < m ∧ W (i + 1) m' H') ∧ ∀ x H', J.yld i H x H' → g x (wipe σ vs) H' fun σ2 H2 => wipe σ2 vs = wipe σ vs ∧ tt σ2 H2 fun b H3 =>
    if b = true then te σ2 H3 fun y H4 => ∃ acc, H4 D = some (.lst acc) ∧ acc.length < sizeLine ∧ Nx (upd H4 D (.lst (acc ++ [y]))) else Nx H3)
theorem lc_core {pins : List (Addr × Obj)} {s : Shared} {σ : St} {H : Hp} {Q : VK} {elt tg iter : Expr} {ifs : List Expr} {scope : Scope} {own : List (Str × Nat)} {pos pos' : Pos} {wi : TI} {g : TG} {tt : TT} {te : TE} {use : Option (Value → Sem Unit)} {Qf : Value → Shared → Prop}
    (hc : X.calm = true) (hN : X.N.Nodup) (I : Inv X pins σ H s) (hi : PI X tg iter wi) (ok : BlkOk X.N X.env.scope scope own)
    (hg : ∀ (s : Shared) (H : Hp) (C : Addr) (cl : List (Str × Addr)) (fp : List Addr), PG (X.blk s H scope (compEnvC scope cl C X.env) fp) tg g) (ht : ∀ (s : Shared) (H : Hp) (C : Addr) (cl : List (Str × Addr)) (fp : List Addr), PTs (X.blk s H scope (compEnvC scope cl C X.env) fp) ifs tt)
    (he : ∀ (s : Shared) (H : Hp) (C : Addr) (cl : List (Str × Addr)) (fp : List Addr), PE (X.blk s H scope (compEnvC scope cl C X.env) fp) elt te) (hs : ∀ x, foldedSetIterable iter X.env x = pure x)
    (h : tLc wi g tt te (own.map (·.2)) σ H Q)
    (hRR : ∀ D C s' m H', Inv X pins σ H' s' → Q (.ref D) H' → s'.heap.Ns C m → FpOk X pins H' C → compPost (model X.prog X.w) X.A X.xe use Qf (.ref D) C (.ok .next) s') :
    wpAny (model X.prog X.w) X.A (comprehension (.ListComp elt [⟨tg, iter, ifs, 0⟩] scope pos) scope X.env pos' (newList []) false (eval iter X.env) use) Qf X.xe s := by
  have hfree : ∀ y ∈ scope.names, y.2 = .free → ∃ c, X.env.cells.lookup y.1 = some c := fun y hy e => by
    rcases ok.free y hy e with k | k
    · exact I.ok.has _ (.inl k)
    · exact I.ok.has _ (.inr k)
  refine wpAny_comprehension_free (use := use) rfl hs (closure_ok hfree) ok.kind (fun y hy e => by rw [ok.uniq y hy, e])
    (thn (hi pins s σ H _ I h) fun xv s1 hx => thn hx fun itv s2 h2 => ?_)
  obtain ⟨it, fp, tn, J, H2, e, I2, T, st2, f2, q⟩ := h2
  subst e
  refine wpAny_newObj_type (newEnv_comp ?_) (by show 0 ≤ sizeLine; decide)
  generalize hD : s2.heap.objs.size = D
  have hDn : H2 D = none := I2.hok.fresh (Nat.le_of_eq hD)
  obtain ⟨W, ⟨m0, w0⟩, turn⟩ := q D hDn
  -- the new list
  generalize hs3 : ({ s2 with heap := s2.heap.push { cls := .type "list", data := .seq ([] : List Value).toArray } } : Shared) = s3
  have I3 : Inv X pins σ (upd H2 D (.lst [])) s3 := by
    rw [← hs3]
    refine I2.laid (t' := s2.toks) (fun b o e => Heap.get?_push_of_some _ e) (Nat.le_of_eq hD) ⟨Nat.zero_le _, [], 0, .nil, ?_⟩
    rw [← hD]
    exact Heap.get?_push_size _ rfl
  have h3 : s3.heap = s2.heap.push { cls := .type "list", data := .seq ([] : List Value).toArray } := by rw [← hs3]
  have sz : ∀ b ∈ fp, b < s2.heap.objs.size := fun b hb => by
    obtain ⟨o, e, _⟩ := T.obj _ _ st2 b hb
    exact Heap.lt_size e
  have f3 : ∀ b ∈ fp, FpOk X pins (upd H2 D (.lst [])) b ∧ b < s3.heap.objs.size := fun b hb => by
    have hlt := sz b hb
    refine ⟨⟨?_, (f2 b hb).2⟩, by rw [h3, Heap.size_push]; exact Nat.lt_succ_of_lt hlt⟩
    rw [upd_ne (by rw [← hD]; exact Nat.ne_of_lt hlt)]
    exact (f2 b hb).1
  have st3 : tn 0 s3.heap := T.keep _ _ _ st2 fun b _ o e => by rw [h3]; exact Heap.get?_push_of_some _ e
  have I4 := block_start I3 ok hN f3
  have pg := hg s3 (upd H2 D (.lst [])) s3.heap.objs.size (cellsFrom (s3.heap.objs.size + 1) scope.names (cloFrom X.env.cells scope.names [])) fp
  have pt := ht s3 (upd H2 D (.lst [])) s3.heap.objs.size (cellsFrom (s3.heap.objs.size + 1) scope.names (cloFrom X.env.cells scope.names [])) fp
  have pe := he s3 (upd H2 D (.lst [])) s3.heap.objs.size (cellsFrom (s3.heap.objs.size + 1) scope.names (cloFrom X.env.cells scope.names [])) fp
  show codeAny _ _ (.compStart (.ListComp elt [⟨tg, iter, ifs, 0⟩] scope pos) 0 (.ref it) (.ref D) (compEnvC scope (cellsFrom (s3.heap.objs.size + 1) scope.names (cloFrom X.env.cells scope.names [])) s3.heap.objs.size X.env)) (compPost (model X.prog X.w) X.A X.xe use Qf (.ref D) s3.heap.objs.size) { s3 with heap := pushCells (s3.heap.push { cls := .type "dict", data := .dict #[] }) scope.names }
  have nfp : ∀ b ∈ fp, (upd H2 D (.lst [])) b = none := fun b hb => (f3 b hb).1.1
  generalize hce : compEnvC scope (cellsFrom (s3.heap.objs.size + 1) scope.names (cloFrom X.env.cells scope.names [])) s3.heap.objs.size X.env = ce at I4 pg pt pe ⊢
  have cL : ce.locals = s3.heap.objs.size := by subst hce; rfl
  generalize hH3 : upd H2 D (.lst []) = H3 at I3 I4 pg pt pe w0 nfp f3
  generalize hs4 : ({ s3 with heap := pushCells (s3.heap.push { cls := .type "dict", data := .dict #[] }) scope.names } : Shared) = s4 at I4 ⊢
  have st4 : tn 0 s4.heap := T.keep _ _ _ st3 fun b _ o e => by rw [← hs4]; exact pushCells_keeps _ _ _ _ (Heap.get?_push_of_some _ e)
  have stat : ∀ {σ' : St} {H' : Hp} {s' : Shared}, Inv (X.blk s3 H3 scope ce fp) [] σ' H' s' → (∀ b ∈ fp, H' b = none) → ∀ b ∈ fp, FpOk (X.blk s3 H3 scope ce fp) [] H' b := fun {σ' H' s'} I' hn b hb =>
    ⟨hn b hb, (I'.ok.exf b hb).1, I'.ok.exfs b hb, .inl hb, fun x c e => (I'.ok.exf b hb).2 x c e, fun p hp => absurd (show p ∈ ([] : List (Addr × Obj)) ++ [] from hp) (by simp)⟩
  have loop : codeAny (model X.prog X.w) X.A (.compLoop (.ListComp elt [⟨tg, iter, ifs, 0⟩] scope pos) 0 (.ref it) (.ref D) ce) (compPost (model X.prog X.w) X.A X.xe use Qf (.ref D) s3.heap.objs.size) s4 := by
    refine compLoop_any (fun n s' => ∃ i H', Inv (X.blk s3 H3 scope ce fp) [] (wipe σ (own.map (·.2))) H' s' ∧ tn i s'.heap ∧ (∀ b ∈ fp, H' b = none) ∧ W i n H') ?_ m0 ⟨0, H3, I4, st4, nfp, w0⟩
    rintro n s5 ⟨i, H5, I5, st5, n5, w5⟩
    rcases turn i n H5 w5 with ⟨stop, qq⟩ | ⟨go, Nx, hNx, step⟩
    · have td := T.done (X.blk s3 H3 scope ce fp) rfl rfl rfl hc i [] s5 _ H5 (fun _ _ => False) I5 (stat I5 n5) st5 stop
      refine thnF td fun r s6 ⟨hr, I6⟩ => ?_
      subst hr
      -- back in the def's context
      have I7 : Inv X pins σ H5 s6 := I3.call' (ch := fp) I6.os I6.base I6.hok I6.bare fun b hb => ⟨(f3 b hb).1.2.2.2.1, (f3 b hb).1.2.1, (f3 b hb).1.2.2.2.2.1, (f3 b hb).1.2.2.2.2.2⟩
      have nC : H5 s3.heap.objs.size = none := by
        have z : H5 ce.locals = none := I6.free
        rw [cL] at z
        exact z
      obtain ⟨m, hn, _⟩ := I6.loc
      have hn : s6.heap.Ns ce.locals m := hn
      rw [cL] at hn
      exact hRR D s3.heap.objs.size s6 m H5 I7 qq hn (I3.fpOk (Nat.le_refl _) nC)
    · have ti := T.item (X.blk s3 H3 scope ce fp) rfl rfl rfl hc i [] s5 _ H5 (fun _ _ => False) I5 (stat I5 n5) st5 go
      refine thnF ti fun r s6 ⟨u, hr, h6⟩ => ?_
      subst hr
      refine thnF h6 fun _ s7 ⟨x, H7, I7, r7, y7, st7, n7⟩ => ?_
      have I7' := I7.pinned (stat I7 n7) (T.obj _ _ st7)
      refine thnF (pg _ s7 _ H7 x u _ I7' r7 (step x H7 y7)) fun _ s8 ⟨σ8, H8, I8, hw8, q8⟩ => ?_
      refine thnF (pt _ s8 σ8 H8 _ I8 q8) fun b s9 ⟨H9, I9, q9⟩ => ?_
      -- the turn's end
      have fin : ∀ {s' : Shared} {H' : Hp}, Inv (X.blk s3 H3 scope ce fp) ([] ++ pinsAt fp s7.heap) σ8 H' s' → Nx H' → ∃ m, m < n ∧ ∃ i H', Inv (X.blk s3 H3 scope ce fp) [] (wipe σ (own.map (·.2))) H' s' ∧ tn i s'.heap ∧ (∀ b ∈ fp, H' b = none) ∧ W i m H' := fun {s' H'} I' nx => by
        obtain ⟨m', hm, w'⟩ := hNx H' nx
        have pin' : ∀ b ∈ fp, ∀ o, s7.heap.get? b = some o → s'.heap.get? b = some o ∧ H' b = none := fun b hb o e =>
          let z := I'.pin (b, o) (List.mem_append_right _ (List.mem_append_right _ (mem_pinsAt hb e)))
          ⟨z.1, z.2.1⟩
        have hl : (wipe σ (own.map (·.2))).length = σ8.length := by rw [← hw8, wipe_length]
        refine ⟨m', hm, i + 1, H', (I'.unpinned (pins := [])).weak hl (fun j v e => ?_), T.keep _ _ _ st7 fun b hb o e => (pin' b hb o e).1, fun b hb => ?_, w'⟩
        · rw [← hw8] at e
          exact (wipe_some e).1
        · obtain ⟨o, e, _⟩ := T.obj _ _ st7 b hb
          exact (pin' b hb o e).2
      cases b with
      | false =>
        simp only [Bool.false_eq_true, if_false] at q9 ⊢
        exact fin I9 q9
      | true =>
        simp only [if_true] at q9 ⊢
        refine thnF (pe _ s9 σ8 H9 _ I9 q9) fun z s10 ⟨yv, H10, I10, r10, acc, hD10, hz10, nx⟩ => ?_
        exact app_ok (X := X.blk s3 H3 scope ce fp) I10 hD10 hz10 r10 fun s11 I11 => fin I11 nx
  exact codeAny_compStart_list loop (T.self X.A 0 _ _ _ st4 loop)
/-- as a value -/
theorem pe_lc {elt tg iter : Expr} {ifs : List Expr} {scope : Scope} {own : List (Str × Nat)} {pos : Pos} {wi : TI} {g : TG} {tt : TT} {te : TE} (hc : X.calm = true) (hN : X.N.Nodup) (hi : PI X tg iter wi) (ok : BlkOk X.N X.env.scope scope own)
    (hg : ∀ (s : Shared) (H : Hp) (C : Addr) (cl : List (Str × Addr)) (fp : List Addr), PG (X.blk s H scope (compEnvC scope cl C X.env) fp) tg g) (ht : ∀ (s : Shared) (H : Hp) (C : Addr) (cl : List (Str × Addr)) (fp : List Addr), PTs (X.blk s H scope (compEnvC scope cl C X.env) fp) ifs tt)
    (he : ∀ (s : Shared) (H : Hp) (C : Addr) (cl : List (Str × Addr)) (fp : List Addr), PE (X.blk s H scope (compEnvC scope cl C X.env) fp) elt te) (hs : ∀ x, foldedSetIterable iter X.env x = pure x := by intro _; rfl) :
    PE X (.ListComp elt [⟨tg, iter, ifs, 0⟩] scope pos) (tLc wi g tt te (own.map (·.2))) := by
  intro pins s σ H Q I h
  rw [eval_ListComp]
  refine lc_core hc hN I hi ok hg ht he hs h fun D C s' m H' I' q hn f => ⟨m, hn, fun h'' sb => ?_⟩
  obtain ⟨f0, f1, f2, f3, f4, f5⟩ := f
  exact ⟨.ref D, H', I'.turned (t' := s'.toks) (fun b o hb e => (sb.2 b hb).trans e) f0 f1 f3 f4 f5, rfl, q⟩
end

/-! ### the forms one uses -/
/-- over a list that the block leaves as it is -/
theorem lc_list {K : PySem.W.Frag} {a : Addr} {xs : List V} {g : TG} {tt : TT} {te : TE} {vs : List Nat} {σ : St} {H1 : Hp} {D : Addr} {Qd : Hp → Prop} (Pv : Nat → Hp → Prop) (h0 : Pv 0 (upd H1 D (.lst []))) (hl : ∀ i H, i ≤ xs.length → Pv i H → SqL K H a xs)
    (hs : ∀ i x H, xs[i]? = some x → Pv i H → g x (wipe σ vs) H fun σ2 H2 => wipe σ2 vs = wipe σ vs ∧ tt σ2 H2 fun b H3 =>
      if b = true then te σ2 H3 fun y H4 => ∃ acc, H4 D = some (.lst acc) ∧ acc.length < sizeLine ∧ Pv (i + 1) (upd H4 D (.lst (acc ++ [y]))) else Pv (i + 1) H3) (hd : ∀ H, Pv xs.length H → Qd H) :
    ∃ W : Nat → Nat → Hp → Prop, (∃ m, W 0 m (upd H1 D (.lst []))) ∧ ∀ i m H, W i m H →
      ((Itl K a).stop i H ∧ Qd H) ∨ ((Itl K a).go i H ∧ ∃ Nx : Hp → Prop, (∀ H', Nx H' → ∃ m', m' < m ∧ W (i + 1) m' H') ∧ ∀ x H', (Itl K a).yld i H x H' → g x (wipe σ vs) H' fun σ2 H2 => wipe σ2 vs = wipe σ vs ∧ tt σ2 H2 fun b H3 =>
        if b = true then te σ2 H3 fun y H4 => ∃ acc, H4 D = some (.lst acc) ∧ acc.length < sizeLine ∧ Nx (upd H4 D (.lst (acc ++ [y]))) else Nx H3) := by
  refine ⟨fun i m H => m = xs.length - i ∧ i ≤ xs.length ∧ Pv i H, ⟨xs.length, by simp, Nat.zero_le _, h0⟩, ?_⟩
  rintro i m H ⟨rfl, hi, p⟩
  have q := hl i H hi p
  by_cases hlt : i < xs.length
  · refine .inr ⟨⟨xs, xs[i], q, by simp [hlt]⟩, Pv (i + 1), fun H' p' => ⟨xs.length - (i + 1), by omega, rfl, hlt, p'⟩, fun x H' y => ?_⟩
    obtain ⟨e, y⟩ := y
    subst e
    exact hs i x _ (y xs q) p
  · have e : i = xs.length := by omega
    subst e
    exact .inl ⟨⟨xs, q, Nat.le_refl _⟩, hd H p⟩
def blkC (N : List Str) (sc scope : Scope) (own : List (Str × Nat)) : Bool :=
  (match scope.kind with | .function => true | _ => false) && (scope.names.all fun y => decide (scope.names.lookup y.1 = some y.2)) && (own.all fun p => decide (N[p.2]? = some p.1)) &&
    (scope.names.all fun y => match y.2 with
      | .free => (match sc.names.lookup y.1 with | some .cell => true | some .free => true | _ => false)
      | .local => decide (y.1 ∈ own.map (·.1)) || decide (y.1 ∉ N)
      | .cell => decide (y.1 ∈ own.map (·.1)) || decide (y.1 ∉ N)
      | _ => true)
theorem blkOk_by {N : List Str} {sc scope : Scope} {own : List (Str × Nat)} (h : blkC N sc scope own = true) : BlkOk N sc scope own := by
  unfold blkC at h
  simp only [Bool.and_eq_true, List.all_eq_true, decide_eq_true_eq] at h
  obtain ⟨⟨⟨h1, h2⟩, h3⟩, h4⟩ := h
  refine ⟨?_, h2, h3, fun y hy e => ?_, fun y hy e => ?_⟩
  · split at h1
    · assumption
    · cases h1
  · have q := h4 y hy
    simp only [e] at q
    split at q <;> first | exact .inl (by assumption) | exact .inr (by assumption) | cases q
  · have q := h4 y hy
    rcases e with e | e <;> (simp only [e, Bool.or_eq_true, decide_eq_true_eq] at q; exact q)
end L2

namespace L2
open PySem PySem.Spec PyProof.Rows

section
variable {prog : Program} {w : World} {A : Around} {R : Result → Shared → Prop} {s : Shared} {elt t0 i0 t1 i1 : Expr} {ifs0 ifs1 : List Expr} {scope : Scope} {pos : Pos} {it acc : Value} {env : Env}
end

section
variable {X : Cx}
end
end L2

namespace L2
open PySem PySem.Spec PyProof.Rows

/-! ### lists of pairs as tables -/
section
variable {κ : Type} [DecidableEq κ]
def valV (kvs : List (κ × V)) (k : κ) : Option V := (kvs.find? fun kv => decide (kv.1 = k)).map (·.2)
/-- in its place, or at the end -/
def putK (kvs : List (κ × V)) (k : κ) (v : V) : List (κ × V) :=
  if (kvs.any fun kv => decide (kv.1 = k)) = true then kvs.map (fun kv => if kv.1 = k then (kv.1, v) else kv) else kvs ++ [(k, v)]
theorem valV_pos {p : κ × V} {r : List (κ × V)} {k : κ} (e : p.1 = k) : valV (p :: r) k = some p.2 := by simp [valV, List.find?_cons, e]
theorem valV_neg {p : κ × V} {r : List (κ × V)} {k : κ} (e : ¬ p.1 = k) : valV (p :: r) k = valV r k := by simp [valV, List.find?_cons, e]
theorem valV_any (k : κ) : ∀ kvs : List (κ × V), (kvs.any fun kv => decide (kv.1 = k)) = (valV kvs k).isSome
  | [] => rfl
  | p :: r => by
    rw [List.any_cons]
    by_cases e : p.1 = k
    · simp only [valV_pos e, decide_eq_true e, Bool.true_or, Option.isSome_some]
    · rw [valV_neg e, decide_eq_false e, Bool.false_or]; exact valV_any k r
theorem valV_map (k j : κ) (y : V) : ∀ kvs : List (κ × V), valV (kvs.map fun kv => if kv.1 = k then (kv.1, y) else kv) j = (valV kvs j).map fun x => if j = k then y else x
  | [] => rfl
  | p :: r => by
    have ih := valV_map k j y r
    rw [List.map_cons]
    by_cases h : p.1 = k
    · rw [if_pos h]
      by_cases e : p.1 = j
      · rw [valV_pos (p := (p.1, y)) e, valV_pos e, Option.map_some, if_pos (e.symm.trans h)]
      · rw [valV_neg (p := (p.1, y)) e, valV_neg e, ih]
    · rw [if_neg h]
      by_cases e : p.1 = j
      · rw [valV_pos (p := p) e, valV_pos e, Option.map_some, if_neg (fun z => h (e.trans z))]
      · rw [valV_neg (p := p) e, valV_neg e, ih]
theorem valV_snoc (k j : κ) (y : V) : ∀ kvs : List (κ × V), valV kvs k = none → valV (kvs ++ [(k, y)]) j = if j = k then some y else valV kvs j
  | [], _ => by
    by_cases e : k = j
    · rw [if_pos e.symm]; exact valV_pos (p := (k, y)) e
    · rw [if_neg (fun z => e z.symm)]; exact valV_neg (p := (k, y)) e
  | p :: r, hn => by
    rw [List.cons_append]
    have hk : ¬ p.1 = k := fun z => by rw [valV_pos z] at hn; cases hn
    rw [valV_neg hk] at hn
    have ih := valV_snoc k j y r hn
    by_cases e : p.1 = j
    · rw [valV_pos e, valV_pos e, if_neg (fun z => hk (e.trans z))]
    · rw [valV_neg e, valV_neg e, ih]
theorem valV_put (kvs : List (κ × V)) (k j : κ) (y : V) : valV (putK kvs k y) j = if j = k then some y else valV kvs j := by
  unfold putK
  by_cases a : (kvs.any fun kv => decide (kv.1 = k)) = true
  · rw [if_pos a, valV_map]
    rw [valV_any] at a
    by_cases e : j = k
    · obtain ⟨x, hx⟩ := Option.isSome_iff_exists.mp a
      rw [if_pos e, e, hx, Option.map_some, if_pos rfl]
    · rw [if_neg e]
      cases valV kvs j with
      | none => rfl
      | some x => rw [Option.map_some, if_neg e]
  · rw [if_neg a]
    refine valV_snoc k j y kvs ?_
    rw [valV_any] at a
    cases q : valV kvs k with
    | none => rfl
    | some x => rw [q] at a; exact (a rfl).elim
theorem length_putK (kvs : List (κ × V)) (k : κ) (v : V) : (putK kvs k v).length ≤ kvs.length + 1 := by
  unfold putK
  split
  · rw [List.length_map]; omega
  · rw [List.length_append, List.length_cons, List.length_nil]; omega
theorem putK_new {kvs : List (κ × V)} {k : κ} (v : V) (h : valV kvs k = none) : putK kvs k v = kvs ++ [(k, v)] := by
  unfold putK
  rw [valV_any, h]
  exact if_neg (by decide)

theorem RelO.isSome_eq {o : Option V} {u : Option Value} (r : RelO o u) : o.isSome = u.isSome := by
  cases o with
  | none => cases u with
    | none => rfl
    | some _ => exact (show False from r).elim
  | some _ => cases u with
    | none => exact (show False from r).elim
    | some _ => rfl
/-- raw tables of the same keys -/
theorem KV.val {kvs : List (κ × V)} {vs : List (κ × Value)} (r : KV kvs vs) (k : κ) : RelO (valV kvs k) (valueAt vs k) := by
  unfold KV at r
  induction r with
  | nil => exact True.intro
  | @cons p q ps qs h t ih =>
    obtain ⟨h1, h2⟩ := h
    by_cases e : p.1 = k
    · have e' : q.1 = k := h1.symm.trans e
      have b : valueAt (q :: qs) k = some q.2 := by simp [valueAt, List.find?_cons, e']
      rw [valV_pos e, b]; exact h2
    · have e' : ¬ q.1 = k := fun z => e (h1.trans z)
      have b : valueAt (q :: qs) k = valueAt qs k := by simp [valueAt, List.find?_cons, e']
      rw [valV_neg e, b]; exact ih
theorem KV.any {kvs : List (κ × V)} {vs : List (κ × Value)} (r : KV kvs vs) (k : κ) : (kvs.any fun kv => decide (kv.1 = k)) = vs.any fun kv => decide (kv.1 = k) := by
  unfold KV at r
  induction r with
  | nil => rfl
  | cons h t ih => rw [List.any_cons, List.any_cons, ih, h.1]
theorem KV.repl {kvs : List (κ × V)} {vs : List (κ × Value)} (r : KV kvs vs) (k : κ) {y : V} {u : Value} (ry : RelV y u) :
    KV (kvs.map fun kv => if kv.1 = k then (kv.1, y) else kv) (vs.map fun kv => if kv.1 = k then (kv.1, u) else kv) := by
  unfold KV at r ⊢
  induction r with
  | nil => exact .nil
  | @cons p q ps qs h t ih =>
    rw [List.map_cons, List.map_cons]
    refine .cons ?_ ih
    obtain ⟨h1, h2⟩ := h
    by_cases e : p.1 = k
    · rw [if_pos e, if_pos (h1.symm.trans e)]; exact ⟨h1, ry⟩
    · rw [if_neg e, if_neg (fun z => e (h1.trans z))]; exact ⟨h1, h2⟩
theorem KV.put {kvs : List (κ × V)} {vs : List (κ × Value)} (r : KV kvs vs) (k : κ) {y : V} {u : Value} (ry : RelV y u) : KV (putK kvs k y) (stored vs k u) := by
  unfold putK stored
  rw [r.any k]
  by_cases e : (vs.any fun kv => decide (kv.1 = k)) = true
  · rw [if_pos e, if_pos e]; exact r.repl k ry
  · rw [if_neg e, if_neg e]; exact Paired.snoc r ⟨rfl, ry⟩
theorem KV.length {kvs : List (κ × V)} {vs : List (κ × Value)} (r : KV kvs vs) : kvs.length = vs.length := Paired.length r
end


/-! ### a tracked dict, its keys ints and texts or tuples of these -/
theorem kV_is {P : Program} {w : World} {k : Key} {u : Value} (r : RelV (kV k) u) : (mixKind P w).is k u = true := by
  cases k with
  | inl i => obtain ⟨t, e⟩ := (show ∃ t, u = Value.int i t from r); subst e; exact mixKind_int P w i t
  | inr x => obtain ⟨t, e⟩ := (show ∃ t, u = Value.str x t from r); subst e; exact mixKind_str P w x t
theorem items_are {P : Program} {w : World} : ∀ {ks : List Key} {us : List Value}, Vals (ks.map kV) us → ItemsAre (mixKind P w) ks us
  | [], _, r => by rw [List.map_nil] at r; cases r; exact .nil
  | k :: ks, _, r => by
    rw [List.map_cons] at r
    cases r with
    | cons h t => exact .cons (kV_is h) (items_are t)

/-- raw entries of a dict with tuple keys -/
abbrev KT (H : Hp) : List (List Key × V) → List (List Key × Addr × Value) → Prop := Paired fun p q => p.1 = q.1 ∧ H q.2.1 = some (.tup (p.1.map kV)) ∧ RelV p.2 q.2.2
theorem KT.val {H : Hp} {kvs : List (List Key × V)} {xs : List (List Key × Addr × Value)} (r : KT H kvs xs) (k : List Key) : RelO (valV kvs k) ((atKey xs k).map (·.2)) := by
  induction r with
  | nil => exact True.intro
  | @cons p q ps qs h t ih =>
    obtain ⟨h1, _, h2⟩ := h
    by_cases e : p.1 = k
    · have e' : q.1 = k := h1.symm.trans e
      have b : atKey (q :: qs) k = some q.2 := by simp [atKey, List.find?_cons, e']
      rw [valV_pos e, b]; exact h2
    · have e' : ¬ q.1 = k := fun z => e (h1.trans z)
      have b : atKey (q :: qs) k = atKey qs k := by simp [atKey, List.find?_cons, e']
      rw [valV_neg e, b]; exact ih
theorem KT.repl {H : Hp} {kvs : List (List Key × V)} {xs : List (List Key × Addr × Value)} (r : KT H kvs xs) (k : List Key) {y : V} {u : Value} (ry : RelV y u) :
    KT H (kvs.map fun kv => if kv.1 = k then (kv.1, y) else kv) (xs.map (putAt k u)) := by
  induction r with
  | nil => exact .nil
  | @cons p q ps qs h t ih =>
    rw [List.map_cons, List.map_cons]
    refine .cons ?_ ih
    obtain ⟨h1, h2, h3⟩ := h
    unfold putAt
    by_cases e : p.1 = k
    · rw [if_pos e, if_pos (h1.symm.trans e)]; exact ⟨h1, h2, ry⟩
    · rw [if_neg e, if_neg (fun z => e (h1.trans z))]; exact ⟨h1, h2, h3⟩
theorem KT.put {H : Hp} {kvs : List (List Key × V)} {xs : List (List Key × Addr × Value)} (r : KT H kvs xs) (k : List Key) {b : Addr} {y : V} {u : Value} (hb : H b = some (.tup (k.map kV))) (ry : RelV y u) :
    KT H (putK kvs k y) (storedH xs k b u) := by
  have e : (kvs.any fun kv => decide (kv.1 = k)) = (atKey xs k).isSome := by
    rw [valV_any, (r.val k).isSome_eq, Option.isSome_map]
  unfold putK storedH
  rw [e]
  by_cases q : (atKey xs k).isSome = true
  · rw [if_pos q, if_pos q]; exact r.repl k ry
  · rw [if_neg q, if_neg q]; exact Paired.snoc r ⟨rfl, hb, ry⟩
theorem KT.keeps {H H' : Hp} {kvs : List (List Key × V)} {xs : List (List Key × Addr × Value)} (r : KT H kvs xs) (ht : ∀ b ys, H b = some (.tup ys) → H' b = some (.tup ys)) : KT H' kvs xs :=
  Paired.mapP r fun _ _ z => ⟨z.1, ht _ _ z.2.1, z.2.2⟩

section
variable {P : Program} {w : World} {H : Hp} {h : Heap} {a : Addr}
theorem rd_of {u : HO} (ok : HOk P w H h) (e : Rd H a u) : ObjOk P w H h a u := e.ok ok
theorem dk_rd {kvs : List (Key × V)} (ok : HOk P w H h) (e : Rd H a (.dK kvs)) : kvs.length ≤ sizeLine ∧ (a == sysModules) = false ∧ ∃ vs, KV kvs vs ∧ h.DictOf (mixKind P w) a vs :=
  show ObjOk P w H h a (.dK kvs) from rd_of ok e
theorem dk_of {kvs : List (Key × V)} (ok : HOk P w H h) (e : H a = some (.dK kvs)) : kvs.length ≤ sizeLine ∧ (a == sysModules) = false ∧ ∃ vs, KV kvs vs ∧ h.DictOf (mixKind P w) a vs := dk_rd ok (.inl e)
/-- a tracked tuple of ints and texts is a key -/
theorem key_of {ks : List Key} (ok : HOk P w H h) (e : H a = some (.tup (ks.map kV))) : (tupleKind (mixKind P w)).is h ks a := by
  obtain ⟨_, its, r, o, h1, h2, n, h3⟩ := (show ObjOk P w H h a (.tup (ks.map kV)) from ok a _ e)
  exact ⟨o, its.toArray, n, h1, h2, h3, by simpa using items_are r⟩
theorem dt_rd {kvs : List (List Key × V)} (ok : HOk P w H h) (e : Rd H a (.dT kvs)) : kvs.length ≤ sizeLine ∧ (a == sysModules) = false ∧
    ∃ xs, KT H kvs xs ∧ h.DictOfH (tupleKind (mixKind P w)) a xs := by
  obtain ⟨z, y, xs, r, o, es, ep, h1, h2, h3, h4, h5⟩ := (show ObjOk P w H h a (.dT kvs) from rd_of ok e)
  refine ⟨z, y, xs, r, o, es, ep, h1, h2, h3, h4, fun x hx => ?_, h5⟩
  have all : ∀ {l : List (List Key × V)} {m : List (List Key × Addr × Value)}, KT H l m → ∀ x ∈ m, (tupleKind (mixKind P w)).is h x.1 x.2.1 := by
    intro l m q
    induction q with
    | nil => intro x hx; exact nomatch hx
    | @cons p q ps qs hq t ih =>
      intro x hx
      rcases List.mem_cons.mp hx with e | hx
      · subst e
        exact key_of ok (by rw [← hq.1]; exact hq.2.1)
      · exact ih x hx
  exact all r x hx
theorem dt_of {kvs : List (List Key × V)} (ok : HOk P w H h) (e : H a = some (.dT kvs)) : kvs.length ≤ sizeLine ∧ (a == sysModules) = false ∧
    ∃ xs, KT H kvs xs ∧ h.DictOfH (tupleKind (mixKind P w)) a xs := dt_rd ok (.inl e)
end

/-- what the dict at a holds at the key y -/
def DGet (H : Hp) (a : Addr) (y : V) (r : Option V) : Prop :=
  (∃ kvs k, Rd H a (.dK kvs) ∧ y = kV k ∧ r = valV kvs k) ∨ ∃ kvs k b, Rd H a (.dT kvs) ∧ y = .ref b ∧ H b = some (.tup (k.map kV)) ∧ r = valV kvs k
/-- the heap behind a[y] = v -/
def DPut (H : Hp) (a : Addr) (y v : V) (H' : Hp) : Prop :=
  (∃ kvs k, H a = some (.dK kvs) ∧ y = kV k ∧ kvs.length < sizeLine ∧ H' = upd H a (.dK (putK kvs k v))) ∨
  ∃ kvs k b, H a = some (.dT kvs) ∧ y = .ref b ∧ H b = some (.tup (k.map kV)) ∧ kvs.length < sizeLine ∧ H' = upd H a (.dT (putK kvs k v))
theorem DGet.k {H : Hp} {a : Addr} {kvs : List (Key × V)} {k : Key} (e : H a = some (.dK kvs)) : DGet H a (kV k) (valV kvs k) := .inl ⟨kvs, k, .inl e, rfl, rfl⟩
theorem DPut.k {H : Hp} {a : Addr} {kvs : List (Key × V)} {k : Key} {v : V} (e : H a = some (.dK kvs)) (hl : kvs.length < sizeLine) : DPut H a (kV k) v (upd H a (.dK (putK kvs k v))) := .inl ⟨kvs, k, e, rfl, hl, rfl⟩
section
variable {X : Cx} {pins : List (Addr × Obj)} {σ : St} {H : Hp} {s : Shared} {a : Addr} {y v : V} {u r : Value} {o : Option V} {A : Around} {E : Value → Shared → Prop}

theorem Inv.big (I : Inv X pins σ H s) : sysModules < s.heap.objs.size := by
  have h : mainGlobals < s.heap.objs.size := (I.mod.glob.keeps I.bk).lt
  exact Nat.lt_trans (by decide) h

/-- d[y], there -/
theorem d_getItem {Q : Value → Shared → Prop} (hu : A.units + 1 < cLine) (I : Inv X pins σ H s) (g : DGet H a y (some v)) (ry : RelV y u) (h : ∀ w' s', Inv X pins σ H s' → RelV v w' → Q w' s') :
    wpAny (model X.prog X.w) A (getItem (.ref a) u) Q E s := by
  rcases g with ⟨kvs, k, e, ey, l⟩ | ⟨kvs, k, b, e, ey, eb, l⟩
  · subst ey
    obtain ⟨z, hd, vs, rel, dd⟩ := dk_rd I.hok e
    obtain ⟨w', hw, rw'⟩ := RelO.some_of (v := v) (o := valueAt vs k) (by rw [l]; exact rel.val k)
    exact wpAny_getItem_of (kV_is ry) dd.mapOf hw (h w' _ (I.tok _) rw')
  · subst ey
    cases (show u = Value.ref b from ry)
    obtain ⟨z, hd, xs, rel, dd⟩ := dt_rd I.hok e
    obtain ⟨w', hw, rw'⟩ := RelO.some_of (v := v) (o := (atKey xs k).map (·.2)) (by rw [l]; exact rel.val k)
    obtain ⟨p, hp, hp2⟩ := Option.map_eq_some_iff.mp hw
    refine wpAny_getItem_heap (tupleKind_room_in1 hu) (key_of I.hok eb) dd hp ?_
    rw [hp2]
    exact h w' _ (I.tok _) rw'
theorem d_notIn {Q : Value → Shared → Prop} (hu : A.units + 1 < cLine) (I : Inv X pins σ H s) (g : DGet H a y o) (ry : RelV y u) (h : ∀ s', Inv X pins σ H s' → Q (.bool (!o.isSome)) s') :
    wpAny (model X.prog X.w) A (compareOp .NotIn u (.ref a)) Q E s := by
  rcases g with ⟨kvs, k, e, ey, l⟩ | ⟨kvs, k, b, e, ey, eb, l⟩
  · subst ey
    obtain ⟨z, hd, vs, rel, dd⟩ := dk_rd I.hok e
    refine wpAny_notIn_of (kV_is ry) hd dd.mapOf ?_
    rw [← (rel.val k).isSome_eq, ← l]
    exact h _ (I.tok _)
  · subst ey
    cases (show u = Value.ref b from ry)
    obtain ⟨z, hd, xs, rel, dd⟩ := dt_rd I.hok e
    refine wpAny_notIn_heap (tupleKind_room_in1 hu) (key_of I.hok eb) hd dd ?_
    have q := (rel.val k).isSome_eq
    rw [Option.isSome_map] at q
    rw [← q, ← l]
    exact h _ (I.tok _)
/-- a dict's object is replaced -/
theorem d_write {h' : Heap} {t' : Nat} {ob : HO} (I : Inv X pins σ H s) (mu : Mut (H a)) (hs : Heap.SameBut a s.heap h') (he : ∃ q, h'.get? a = some q) (new : ObjOk X.prog X.w (upd H a ob) h' a ob) :
    Inv X pins σ (upd H a ob) { s with heap := h', toks := t' } :=
  I.write (x := a) (e := a) mu (.inl rfl) (fun b q hb z => (hs.2 b hb).trans z) he new
theorem dk_new {P : Program} {w : World} {H' : Hp} {h' : Heap} {kvs : List (Key × V)} {vs : List (Key × Value)} (z : kvs.length ≤ sizeLine) (hd : (a == sysModules) = false) (rel : KV kvs vs) (dd : h'.DictOf (mixKind P w) a vs) :
    ObjOk P w H' h' a (.dK kvs) := ⟨z, hd, vs, rel, dd⟩
/-- d[y] = v -/
theorem d_setItem {H' : Hp} {Q : Unit → Shared → Prop} (hu : A.units + 1 < cLine) (I : Inv X pins σ H s) (g : DPut H a y v H') (ry : RelV y u) (rv : RelV v r) (h : ∀ s', Inv X pins σ H' s' → Q () s') :
    wpAny (model X.prog X.w) A (setItem (.ref a) u r) Q E s := by
  rcases g with ⟨kvs, k, e, ey, l, eH⟩ | ⟨kvs, k, b, e, ey, eb, l, eH⟩
  · subst ey eH
    obtain ⟨z, hd, vs, rel, dd⟩ := dk_of I.hok e
    have hz : vs.length ≤ sizeLine := by rw [← rel.length]; exact z
    have hl : (putK kvs k v).length ≤ sizeLine := by have := length_putK kvs k v; omega
    refine wpAny_setItem_pairs (hsz := hz) (kV_is ry) dd fun h' dd' hs => h _ ?_
    have he : ∃ q, h'.get? a = some q := let ⟨q, _, _, hq, _⟩ := dd'; ⟨q, hq⟩
    exact d_write I (by rw [e]; exact True.intro) hs he (dk_new hl hd (rel.put k rv) dd')
  · subst ey eH
    cases (show u = Value.ref b from ry)
    obtain ⟨z, hd, xs, rel, dd⟩ := dt_of I.hok e
    have hz : xs.length ≤ sizeLine := by rw [← Paired.length rel]; exact z
    have hl : (putK kvs k v).length ≤ sizeLine := by have := length_putK kvs k v; omega
    refine wpAny_setItem_heap (hsz := hz) (tupleKind_room_in1 hu) (key_of I.hok eb) dd fun h' dd' hs => h _ ?_
    obtain ⟨q, es, ep, hq, h2, h3, h4, _, h5⟩ := dd'
    refine d_write I (by rw [e]; exact True.intro) hs ⟨q, hq⟩ ⟨hl, hd, _, (rel.put k eb rv).keeps fun c ys ec => ?_, q, es, ep, hq, h2, h3, h4, h5⟩
    rw [upd_ne (ne_of ec e (fun z => nomatch z))]
    exact ec
end

section
variable {X : Cx} {pins : List (Addr × Obj)} {σ : St} {H : Hp} {s : Shared} {a : Addr} {kvs : List (Key × V)} {k : Key} {u : Value} {A : Around} {E : Value → Shared → Prop}
end


/-! ### readings and rules -/
/-- the element of a subscription, not a slice -/
def NoSl (i : Expr) : Prop := ∀ ov iv, subscripted i false ov iv = operate [ov, iv] (getItem ov iv)
theorem subD_of {prog : Program} {w : World} {A : Around} {E : Value → Shared → Prop} {s : Shared} {env : Env} {value slice : Expr} {pos : Pos} {T id : String} {Q : Value → Shared → Prop}
    (hl : typeLookup (.type T) "__getitem__" = pure (some (.builtin id))) (hs : NoSl slice)
    (h : wpAny (model prog w) A (eval value env) (fun o s₁ => wpAny (model prog w) A (eval slice env) (fun i s₂ => s₂.TypeIs o T ∧ wpAny (model prog w) A (getItem o i) Q E s₂) E s₁) E s) :
    wpAny (model prog w) A (eval (.Subscript value slice pos) env) Q E s := by
  refine Subscript_ (wpAny_mono h (fun o s₁ h₁ => wpAny_mono h₁ (fun i s₂ h₂ => ?_) fun _ _ x => x) fun _ _ x => x)
  obtain ⟨hT, h₂⟩ := h₂
  unfold subscriptTail
  refine wpAny_bind ?_
  rw [getitemInPython_of_ne hT.not_modules]
  refine wpAny_bind (wpAny_specialOf hT hl ?_)
  have fin : wpAny (model prog w) A (subscripted slice false o i) (fun r s₃ => wpAny (model prog w) A (letTemporaryGo value o r >>= fun _ => pure r) Q E s₃) E s₂ := by
    rw [hs o i]
    exact wpAny_operating (wpAny_mono h₂ (fun r s₃ h₃ => wpAny_bind (wpAny_letTemporaryGo (wpAny_pure h₃))) fun _ _ x => x)
  first
    | exact wpAny_pure (wpAny_bind fin)
    | exact wpAny_bind (wpAny_pure (wpAny_bind fin))
    | exact wpAny_bind fin

theorem dict_typeIs {X : Cx} {pins : List (Addr × Obj)} {σ : St} {H : Hp} {s : Shared} {a : Addr} {y : V} {o : Option V} (I : Inv X pins σ H s) (g : DGet H a y o) : s.TypeIs (.ref a) "dict" := by
  rcases g with ⟨kvs, k, e, _, _⟩ | ⟨kvs, k, b, e, _, _, _⟩
  · obtain ⟨_, _, vs, _, dd⟩ := dk_rd I.hok e
    exact dd.typeIs
  · obtain ⟨_, _, xs, _, dd⟩ := dt_rd I.hok e
    exact dd.typeIs
/-- d[y] -/
def tDGet (td ty : TE) : TE := fun σ H Q => td σ H fun x H1 => ty σ H1 fun y H2 => ∃ a v, x = .ref a ∧ DGet H2 a y (some v) ∧ Q v H2
def tDNotIn (ty td : TE) : TE := fun σ H Q => ty σ H fun y H1 => td σ H1 fun x H2 => ∃ a o, x = .ref a ∧ DGet H2 a y o ∧ Q (.bl (!o.isSome)) H2
/-- d[y] = v -/
def sDPut (td ty tv : TE) : TS := fun D σ H => tv σ H fun v H1 => td σ H1 fun x H2 => ty σ H2 fun y H3 => ∃ a H4, x = .ref a ∧ DPut H3 a y v H4 ∧ D.nx σ H4
section
variable {X : Cx} {o i e value : Expr} {pos pos' tpos : Pos} {td ty tv : TE}
theorem pe_dget (hu : X.A.units + 1 < cLine) (ho : PE X o td) (hi : PE X i ty) (hs : NoSl i) : PE X (.Subscript o i pos) (tDGet td ty) := by
  intro pins s σ H Q I h
  refine subD_of PySem.F.slot_dict_getitem.lookup hs (thn (ho pins s σ H _ I h) fun u s1 ⟨x, H1, I1, rx, q1⟩ => thn (hi pins s1 σ H1 _ I1 q1) fun iv s2 ⟨y, H2, I2, ry, a, v, ex, g, q2⟩ => ?_)
  subst ex
  obtain rfl : u = Value.ref a := rx
  exact ⟨dict_typeIs I2 g, d_getItem hu I2 g ry fun w' s3 I3 rw' => ⟨v, H2, I3, rw', q2⟩⟩
theorem pc_dnotin (hu : X.A.units + 1 < cLine) (hi : PE X i ty) (ho : PE X o td) : PC X .NotIn i o (tDNotIn ty td) := by
  intro pins s σ H Q I h
  refine thn (hi pins s σ H _ I h) fun iv s1 ⟨y, H1, I1, ry, q1⟩ => thn (ho pins s1 σ H1 _ I1 q1) fun u s2 ⟨x, H2, I2, rx, a, ov, ex, g, q2⟩ => ?_
  subst ex
  obtain rfl : u = Value.ref a := rx
  exact d_notIn hu I2 g ry fun s3 I3 => ⟨.bl (!ov.isSome), H2, I3, rfl, q2⟩
theorem ps_dput (hu : X.A.units + 1 < cLine) (ho : PE X o td) (hi : PE X i ty) (hv : PE X value tv) (hs : swapsWith value (some (.Subscript o i pos')) pos.line X.env = pure false) :
    PS X (.Assign [.Subscript o i pos'] value pos) (sDPut td ty tv) := by
  intro pins s σ H D I h
  refine wpAny_Assign_Subscript (thn (hv pins s σ H _ I h) fun r s1 ⟨v, H1, I1, rv, q1⟩ => thn (ho pins s1 σ H1 _ I1 q1) fun u s2 ⟨x, H2, I2, rx, q2⟩ => thn (hi pins s2 σ H2 _ I2 q2) fun iv s3 ⟨y, H3, I3, ry, a, H4, ex, g, q3⟩ => ?_) hs
  subst ex
  obtain rfl : u = Value.ref a := rx
  exact d_setItem hu I3 g ry rv fun s4 I4 => ⟨σ, H4, I4, q3⟩
end


/-! ### displays -/
theorem dk_empty {P : Program} {w : World} {H : Hp} (h : Heap) (hb : sysModules < h.objs.size) : ObjOk P w H (h.push { cls := .type "dict", data := .dict #[] }) h.objs.size (.dK []) :=
  ⟨Nat.zero_le _, beq_eq_false_iff_ne.mpr (Ne.symm (Nat.ne_of_lt hb)), [], .nil, Heap.DictOf.new h⟩
/-- {}, to be a dict of the kind that is wanted -/
def tDNewK : TE := fun _ H Q => ∀ p, H p = none → Q (.ref p) (upd H p (.dK []))
section
variable {X : Cx} {pos : Pos}
theorem pe_dnewK : PE X (.Dict [] [] pos) tDNewK := fun pins s σ H Q I h =>
  wpAny_Dict_empty ⟨.ref s.heap.objs.size, _, I.laid (a := s.heap.objs.size) (o := .dK []) (t' := s.toks) (fun _ _ q => Heap.get?_push_of_some _ q) (Nat.le_refl _) (dk_empty s.heap I.big), rfl, h _ (I.hok.fresh (Nat.le_refl _))⟩
end

/-! ### methods -/
/-- a method call o.m(e) of a built-in, with one argument: what must be seen of the text -/
structure M1 (X : Cx) (o : Expr) (m : Str) (apos : Pos) (e : Expr) (cpos : Pos) : Prop where
  base : attributeBase o m X.env (eval o X.env) = eval o X.env
  few : ((backTo cpos (starEach [e] X.env)).all (fun x => !x.1) && (backToKw cpos (keywordEach [] X.env)).all (fun x => x.1.isSome)
    && decide (([e] : List Expr).length + ([] : List Keyword).length + (if ([] : List Keyword).isEmpty then 0 else 1) < 30)) = true
  line : (apos.endLine == cpos.line) = true
  trees : backTo cpos (starEach [e] X.env) = [(false, eval e X.env)]
structure M2 (X : Cx) (o : Expr) (m : Str) (apos : Pos) (e f : Expr) (cpos : Pos) : Prop where
  base : attributeBase o m X.env (eval o X.env) = eval o X.env
  few : ((backTo cpos (starEach [e, f] X.env)).all (fun x => !x.1) && (backToKw cpos (keywordEach [] X.env)).all (fun x => x.1.isSome)
    && decide (([e, f] : List Expr).length + ([] : List Keyword).length + (if ([] : List Keyword).isEmpty then 0 else 1) < 30)) = true
  line : (apos.endLine == cpos.line) = true
  trees : backTo cpos (starEach [e, f] X.env) = [(false, eval e X.env), (false, eval f X.env)]

section
variable {X : Cx} {pins : List (Addr × Obj)} {σ : St} {H : Hp} {s : Shared} {a : Addr} {y d : V} {u r : Value} {o : Option V} {A : Around} {E : Value → Shared → Prop}
end

section
variable {X : Cx} {o e f : Expr} {apos cpos : Pos} {td ty tx : TE}
end

/-! ### dict(d): a copy -/
section
variable {X : Cx} {pins : List (Addr × Obj)} {σ : St} {H : Hp} {s : Shared} {a : Addr} {kvs : List (Key × V)} {A : Around} {E : Value → Shared → Prop}
end


section
variable {X : Cx} {pins : List (Addr × Obj)} {σ : St} {H : Hp} {s : Shared} {a : Addr} {y : V} {u : Value} {A : Around} {E : Value → Shared → Prop}
end
end L2

namespace L2
open PySem PySem.Spec PyProof.Rows

section
variable {prog : Program} {w : World} {A : Around} {E : Value → Shared → Prop}
end

section
variable {X : Cx}
end
end L2

namespace L2
open PySem PySem.Spec PyProof.Rows

section
variable {X : Cx} {pins : List (Addr × Obj)} {σ : St} {H : Hp} {s : Shared} {h' : Heap}
/-! ### locking a thing while a statement runs -/
end
section
variable {X : Cx}
/-! ### one iterator just laid -/
end

/-! ### range with a step -/
section
variable {X : Cx} {tg : Expr}
end
/-! ### reversed(list) -/
section
variable {X : Cx} {tg : Expr}
end

/-! ### a str -/
/-! ### a dict's keys: any dict's entries -/
section
variable {prog : Program} {w : World} {A : Around} {E : Value → Shared → Prop} {s : Shared}
end

/-! ### a locked dict -/
section
variable {X : Cx} {pins : List (Addr × Obj)} {σ : St} {H : Hp} {s : Shared} {d : Addr} {o : Obj}
end

section
variable {P : Program} {w : World} {K : PySem.W.Frag} {tg : Expr} {d : Addr} {o : Obj} {es : Array DictEntry} {ep : Nat}
end

/-! ### for k in d, d.keys(), d.values(), d.items() -/
section
variable {X : Cx} {tg e : Expr} {td : TE} {apos cpos : Pos}
end

/-! ### enumerate(list) -/
/-! ### zip(list, list) -/
end L2

section 
namespace Bits
open PySem PyProof.Rows

end Bits
end 

section 
namespace TL
open PySem PySem.Builtin PySem.Builtin.Str PySem.StrLaws

/-! ### the list functions -/
/-! ### the model's split and partition are these -/
/-! ### computing spl and par -/
/-! ### digits -/
/-! ### words: x.split() -/
end TL
end 

namespace L2
open PySem PySem.Spec PyProof.Rows

section
variable {X : Cx} {pins : List (Addr × Obj)} {σ : St} {H : Hp} {s : Shared} {Q : VK}
end

section
variable {X : Cx}

/-! ### of a text alone -/
/-! ### of a text and a text -/
end

section
variable {X : Cx} {o e : Expr} {to te : TE}
end
end L2

namespace L2
open PySem PySem.Spec PyProof.Rows

section
variable {X : Cx}
end

/-! ### slices of a text -/
end L2

namespace Att
open PySem PySem.W PySem.Calls PyProof.Rows

/-! ### the script -/
/-! ### the attachment: holds_open's last premise (the goal 'hc' behind k_head) from a wpAny of the law's body -/
/-! ### rules over ANY heap (no ledger) from facts about the written part K: the library's own take a ledger (News) for what they write -/
section
variable {prog : Program} {w : World} {A : Around} {E : Value → Shared → Prop} {s : Shared} {K : Frag}

/-! the whole heap as the ledger: makes every rule that writes through a ledger a rule over any heap -/
end
end Att

namespace L2
open PySem PySem.Spec PyProof.Rows

end L2

namespace L2
open PySem PySem.Spec PyProof.Rows

end L2


/-! SHORT WORDS over the layer: a def of the text, its body, what a loop and a test want. -/
namespace L2
open PySem PySem.Spec PyProof.Rows

/-! ### the text by places -/
/-- the j-th statement of a class's body -/
def inClass (s : Stmt) (j : Nat) : Stmt := match s with
  | .ClassDef _ _ _ body _ _ _ _ _ _ _ => body.getD j (.Pass ⟨0, 0, 0, 0⟩)
  | _ => .Pass ⟨0, 0, 0, 0⟩
def defArgs (s : Stmt) : Arguments := match s with
  | .FunctionDef _ a _ _ _ _ _ _ _ _ => a
  | _ => { posonlyargs := [], args := [], vararg := none, kwonlyargs := [], kw_defaults := [], kwarg := none, defaults := [] }
def defBody (s : Stmt) : List Stmt := match s with
  | .FunctionDef _ _ b _ _ _ _ _ _ _ => b
  | _ => []
def defScope (s : Stmt) : Scope := match s with
  | .FunctionDef _ _ _ _ _ _ sc _ _ _ => sc
  | _ => { kind := .function, names := [], isGenerator := false, isCoroutine := false }

/-! ### no exception leaves a def -/
abbrev CX0 : CXT := fun _ _ _ _ _ _ => False
abbrev E0 : XK := fun _ _ _ => False
theorem pass0 {X : Cx} : Passes CX0 X E0 := fun _ _ _ _ _ _ _ h => h.elim

/-! ### a def (or method) of the text as it stands behind the top -/
structure Fun (K : PySem.W.Frag) (x qual : Str) (st : Stmt) (f : Addr) (fd : FuncData) : Prop where
  ex : ∃ (oc : Value) (od : Option Addr) (kV doc pm : Value) (an : Option Addr) (cdv ct : Value) (osl : Array (Option Value)),
    fd = PySem.W.fnOf x qual (defArgs st) (defBody st) (defScope st) .none kV doc pm an cdv ct ∧ K.lookup f = some ⟨oc, od, .func fd, osl⟩ ∧ PySem.W.codeIn K cdv qual = true
  kp : PySem.W.keepIn K (.ref f) = true
section
variable {P : Program} {w : World} {K : PySem.W.Frag} {mg : Str → Option Value} {base : Heap}
/-- THE RULE for a def: its body as a term of rules, and the reading of that term -/
theorem Fun.ok {x qual : Str} {st : Stmt} {f : Addr} {fd : FuncData} {N ps : List Str} {k : Nat} {sp : Sp} (F : Fun K x qual st f fd) (S : FnScope N ps (defScope st)) (len : ∀ vs H Q E, sp vs H Q E → vs.length = ps.length)
    (hbody : ∀ (cdv : Value) (A : Around) (outer : List Env) (s : Shared) (H : Hp) (vs : List V) (Q : VK) (E : XK), Room k (A.deeper (envOfC qual (defScope st) s.heap.objs.size f cdv)) → sp vs H Q E →
      ∃ t, PSs (cxOf CX0 P w K mg base N qual (defScope st) f cdv A outer s H E).nox (defBody st) t ∧ t { nx := fun _ H' => Q .non H', rt := Q } (start N vs) H) : FnOk P w K mg base CX0 (k + 1) f fd ps sp := by
  obtain ⟨oc, od, kV, doc, pm, an, cdv, ct, osl, rfl, lk, hcd⟩ := F.ex
  refine fn_of lk hcd S len fun A outer s H vs Q E hr hsp => ?_
  obtain ⟨t, h, q⟩ := hbody cdv A outer s H vs Q E hr hsp
  exact ⟨t, h.nox, q⟩
/-- how its arguments bind (no defaults): h is «fun _ _ _ _ _ _ us hl => match us, hl with | [_, _], _ => rfl», one _ a parameter -/
theorem Fun.binds {x qual : Str} {st : Stmt} {f : Addr} {fd : FuncData} {ps : List Str} (F : Fun K x qual st f fd)
    (h : ∀ (kV doc pm : Value) (an : Option Addr) (cdv ct : Value) (us : List Value), us.length = ps.length → bindArgs (PySem.W.fnOf x qual (defArgs st) (defBody st) (defScope st) .none kV doc pm an cdv ct) ⟨us, []⟩ = pure (ps.zip us)) : Binds K fd ps [] := by
  obtain ⟨oc, od, kV, doc, pm, an, cdv, ct, osl, rfl, lk, hcd⟩ := F.ex
  exact .all (h kV doc pm an cdv ct)
theorem fun_mk {x qual : Str} {st : Stmt} {f : Addr} {oc : Value} {od an : Option Addr} {osl : Array (Option Value)} {kV doc pm cdv ct : Value} (l : K.lookup f = some ⟨oc, od, .func (PySem.W.fnOf x qual (defArgs st) (defBody st) (defScope st) .none kV doc pm an cdv ct), osl⟩)
    (c : PySem.W.codeIn K cdv qual = true) (k : PySem.W.keepIn K (.ref f) = true) : Fun K x qual st f (PySem.W.fnOf x qual (defArgs st) (defBody st) (defScope st) .none kV doc pm an cdv ct) := ⟨⟨oc, od, kV, doc, pm, an, cdv, ct, osl, rfl, l, c⟩, k⟩
end
theorem hu_of {A : Around} {k : Nat} (hr : Room k A) : A.units + 1 < cLine := Nat.lt_of_le_of_lt (Nat.add_le_add_left (by decide : 1 ≤ 64) _) hr.units
/-! ### expressions in short: the name that stands in the i-th slot -/
section
variable {X : Cx}
theorem pv (i : Nat) {x : Str} {pos : Pos} (hN : X.N[i]? = some x := by rfl) (hv : Vis X.env.scope x := by first | exact Or.inl rfl | exact Or.inr (Or.inl rfl) | exact Or.inr (Or.inr rfl)) (hd : (x == ("__debug__" : Str)) = false := by decide)
    (hcd : (x == ("__classdict__" : Str)) = false := by decide) : PE X (.Name x pos) (tVar i) := pe_var hN hv hd hcd
end

/-! ### tests -/
theorem iteF {A B : Prop} (h : B) : if false = true then A else B := by
  rw [if_neg Bool.false_ne_true]
  exact h
theorem iteT {A B : Prop} (h : A) : if true = true then A else B := by
  rw [if_pos rfl]
  exact h
theorem ite2 {c A B : Prop} [Decidable c] (h1 : c → A) (h2 : ¬ c → B) : if c then A else B := by
  by_cases h : c
  · rw [if_pos h]
    exact h1 h
  · rw [if_neg h]
    exact h2 h
/-! ### heaps -/
/-- all that was tracked is as it was -/
def Same (H H' : Hp) : Prop := ∀ b o, H b = some o → H' b = some o
theorem Same.trans {H H1 H2 : Hp} (a : Same H H1) (b : Same H1 H2) : Same H H2 := fun c o h => b c o (a c o h)
theorem Same.free {H H' : Hp} (e : Same H H') {l : Addr} (h : H' l = Option.none) : H l = Option.none := by
  cases q : H l with
  | none => rfl
  | some o =>
    rw [e l o q] at h
    cases h
/-! ### a dict's pairs: keys that differ -/
section
variable {κ : Type} [DecidableEq κ]
end
/-! ### lists -/
theorem at_of {xs : List V} {z : Int} {j : Nat} {v : V} (e : z = (j : Int)) (h : xs[j]? = some v) : atI xs z = some v := by
  rw [e]
  exact atI_nat h
/-- a new instance and its __init__ leave all that was tracked as it was -/
theorem Same.made {H H1 : Hp} {x dx C : Addr} (nx : H x = Option.none) (nd : H dx = Option.none) (k : ∀ b o, (upd (upd H dx (.own x)) x (.ins C dx [])) b = some o → b ≠ x → H1 b = some o) : Same H H1 := fun b o e =>
  k b o (by rw [upd_ne (ne_of_none e nx), upd_ne (ne_of_none e nd)]; exact e) (ne_of_none e nx)
end L2

section
set_option Elab.async false
set_option linter.all false
set_option maxRecDepth 100000
set_option maxHeartbeats 2000000
namespace L2
open PySem PySem.Spec PyProof.Rows
open PySem.W (WData Codec OpenSpec Well WellAll ReadsW ReadsAllW)
/-! ### an answer as data -/
mutual
/-- x stands for the datum d, lists and tuples all the way -/
inductive Dw (K : PySem.W.Frag) (H : Hp) : V → WData → Prop
  | non : Dw K H .non .none
  | bl (b : Bool) : Dw K H (.bl b) (.bool b)
  | int (i : Int) : Dw K H (.int i) (.int i)
  | str (x : Str) : Dw K H (.str x) (.str x)
  | byt (b : Array UInt8) : Dw K H (.byt b) (.bytes b.toList)
  | lst {a : Addr} {xs : List V} {ds : List WData} : SqL K H a xs → DwAll K H xs ds → Dw K H (.ref a) (.list ds)
  | tup {a : Addr} {xs : List V} {ds : List WData} : SqT K H a xs → DwAll K H xs ds → Dw K H (.ref a) (.tuple ds)
inductive DwAll (K : PySem.W.Frag) (H : Hp) : List V → List WData → Prop
  | nil : DwAll K H [] []
  | cons {v : V} {vs : List V} {d : WData} {ds : List WData} : Dw K H v d → DwAll K H vs ds → DwAll K H (v :: vs) (d :: ds)
end
theorem dw_ints {K : PySem.W.Frag} {H : Hp} : ∀ ns : List Int, DwAll K H (ns.map V.int) (ns.map WData.int)
  | [] => .nil
  | n :: r => .cons (.int n) (dw_ints r)
theorem ints_dw {K : PySem.W.Frag} {H : Hp} : ∀ (ns : List Int) (xs : List V), DwAll K H xs (ns.map WData.int) → xs = ns.map V.int
  | [], xs, h => by
    cases h
    rfl
  | n :: r, xs, h => by
    cases h with
    | cons h1 h2 =>
      cases h1
      rw [ints_dw r _ h2] <;> rfl
section
variable {P : Program} {w : World} {K : PySem.W.Frag} {H : Hp} {h : Heap} {R : PySem.W.WRecords} {cl : Str → Option Addr}
theorem sqL_at {a : Addr} {xs : List V} (hok : HOk P w H h) (KX : K.In h) (q : SqL K H a xs) : ∃ (its : List Value) (o : Obj) (n : Nat), Vals xs its ∧ h.get? a = some o ∧ o.cls = .type "list" ∧ o.data = .seq its.toArray n := by
  rcases q with q | ⟨o, its, n, e, hc, _, hd, _, hv⟩
  · obtain ⟨_, its, n, hv, e⟩ := (show ObjOk P w H h a (.lst xs) from q.ok hok)
    exact ⟨its, _, n, hv, e, rfl, rfl⟩
  · exact ⟨its.toList, o, n, hv, KX _ _ e, hc, by simp [hd]⟩
theorem sqT_at {a : Addr} {xs : List V} (hok : HOk P w H h) (KX : K.In h) (q : SqT K H a xs) : ∃ (its : List Value) (o : Obj) (n : Nat), Vals xs its ∧ h.get? a = some o ∧ o.cls = .type "tuple" ∧ o.data = .seq its.toArray n := by
  rcases q with q | ⟨o, its, n, e, hc, hd, _, hv⟩
  · obtain ⟨_, its, hv, o, e, hc, n, hd⟩ := (show ObjOk P w H h a (.tup xs) from q.ok hok)
    exact ⟨its, o, n, hv, e, hc, hd⟩
  · exact ⟨its.toList, o, n, hv, KX _ _ e, hc, by simp [hd]⟩
mutual
theorem Dw.reads (hok : HOk P w H h) (KX : K.In h) : ∀ (d : WData) (v : V) (u : Value), Dw K H v d → RelV v u → ∃ as, ReadsW R cl h u d as
  | .none, _, _, x, r => by
    cases x
    cases r
    exact ⟨_, ReadsW.none⟩
  | .bool b, _, _, x, r => by
    cases x
    cases r
    exact ⟨_, ReadsW.bool b⟩
  | .int i, _, _, x, r => by
    cases x
    obtain ⟨t, rfl⟩ := r
    exact ⟨_, ReadsW.int i t⟩
  | .str s, _, _, x, r => by
    cases x
    obtain ⟨t, rfl⟩ := r
    exact ⟨_, ReadsW.str s t⟩
  | .bytes b, _, _, x, r => by
    cases x
    obtain ⟨t, rfl⟩ := r
    exact ⟨_, ReadsW.bytes _ t⟩
  | .list ds, _, _, x, r => by
    cases x with
    | lst hs ha =>
      cases r
      obtain ⟨its, o, n, rv, ho, hc, hd⟩ := sqL_at hok KX hs
      obtain ⟨as, hr⟩ := Dw.readsAll hok KX ds _ its ha rv
      exact ⟨_, ReadsW.list ho hc hd hr⟩
  | .tuple ds, _, _, x, r => by
    cases x with
    | tup hs ha =>
      cases r
      obtain ⟨its, o, n, rv, ho, hc, hd⟩ := sqT_at hok KX hs
      obtain ⟨as, hr⟩ := Dw.readsAll hok KX ds _ its ha rv
      exact ⟨_, ReadsW.tuple ho hc hd hr⟩
  | .float _, _, _, x, _ => by cases x
  | .dict _, _, _, x, _ => by cases x
  | .bytearray _, _, _, x, _ => by cases x
  | .set _, _, _, x, _ => by cases x
  | .frozenset _, _, _, x, _ => by cases x
  | .obj _ _, _, _, x, _ => by cases x
theorem Dw.readsAll (hok : HOk P w H h) (KX : K.In h) : ∀ (ds : List WData) (vs : List V) (us : List Value), DwAll K H vs ds → Vals vs us → ∃ as, ReadsAllW R cl h us ds as
  | [], _, _, x, r => by
    cases x
    cases r
    exact ⟨_, ReadsAllW.nil⟩
  | d :: ds, _, _, x, r => by
    cases x with
    | cons h1 h2 =>
      cases r with
      | cons r1 r2 =>
        obtain ⟨as, q1⟩ := Dw.reads hok KX d _ _ h1 r1
        obtain ⟨bs, q2⟩ := Dw.readsAll hok KX ds _ _ h2 r2
        exact ⟨_, ReadsAllW.cons q1 q2⟩
end
end
/-! ### the arguments -/
mutual
/-- data that a codec tells -/
def plW : WData → Bool
  | .none => true
  | .bool _ => true
  | .int _ => true
  | .str _ => true
  | .bytes _ => true
  | .list xs => plWs xs
  | .tuple xs => plWs xs
  | _ => false
def plWs : List WData → Bool
  | [] => true
  | x :: r => plW x && plWs r
end
theorem plWs_map {α : Type} {f : α → WData} (h : ∀ a, plW (f a) = true) : ∀ l : List α, plWs (l.map f) = true
  | [] => rfl
  | x :: r => by
    show (plW (f x) && plWs (r.map f)) = true
    rw [h x, plWs_map h r] <;> rfl
theorem pl_enc : ∀ (c : Codec) (a : c.denote), plW (c.enc a) = true
  | .unit, _ => rfl
  | .bool, _ => rfl
  | .int _ _, _ => rfl
  | .nat _ _, _ => rfl
  | .u8, _ => rfl
  | .bytes _ _, _ => rfl
  | .text _ _ _ _, _ => rfl
  | .list _ _ c, a => plWs_map (fun x => pl_enc c x) a
  | .pair c d, a => by
    show (plW (c.enc a.1) && (plW (d.enc a.2) && true)) = true
    rw [pl_enc c a.1, pl_enc d a.2] <;> rfl
  | .triple c d e, a => by
    show (plW (c.enc a.1) && (plW (d.enc a.2.1) && (plW (e.enc a.2.2) && true))) = true
    rw [pl_enc c a.1, pl_enc d a.2.1, pl_enc e a.2.2] <;> rfl
  | .option c, none => rfl
  | .option c, some x => pl_enc c x
theorem pl_encAll : ∀ (cs : List Codec) (a : Codec.denoteAll cs), plWs (Codec.encAll cs a) = true
  | [], _ => rfl
  | c :: cs, a => by
    show (plW (c.enc a.1) && plWs (Codec.encAll cs a.2)) = true
    rw [pl_enc c a.1, pl_encAll cs a.2] <;> rfl
theorem weight_mem : ∀ {xs : List WData} {d : WData}, d ∈ xs → d.weight ≤ WData.weightAll xs
  | [], d, h => absurd h (by simp)
  | x :: r, d, h => by
    show d.weight ≤ x.weight + 1 + WData.weightAll r
    rcases List.mem_cons.mp h with e | m
    · rw [e]
      omega
    · have z := weight_mem m
      omega
def toV : Value → V
  | .none => .non
  | .bool b => .bl b
  | .int i _ => .int i
  | .str x _ => .str x
  | .bytes b _ => .byt b
  | .ref a => .ref a
  | _ => .non
/-- a value of the arguments, its objects among A -/
def OkU (A : List Addr) : Value → Prop
  | .none => True
  | .bool _ => True
  | .int _ _ => True
  | .str _ _ => True
  | .bytes _ _ => True
  | .ref a => a ∈ A
  | _ => False
theorem OkU.mono {A B : List Addr} (h : ∀ a ∈ A, a ∈ B) : ∀ {u : Value}, OkU A u → OkU B u := fun {u} x => by
  cases u with
  | ref a => exact h a x
  | none => trivial
  | bool b => trivial
  | int i t => trivial
  | str s t => trivial
  | bytes b t => trivial
  | _ => exact False.elim x
theorem relV_toV {A : List Addr} {u : Value} (x : OkU A u) : RelV (toV u) u := by
  cases u with
  | ref a => rfl
  | none => rfl
  | bool b => rfl
  | int i t => exact ⟨t, rfl⟩
  | str s t => exact ⟨t, rfl⟩
  | bytes b t => exact ⟨t, rfl⟩
  | _ => exact False.elim x
theorem vals_toV {A : List Addr} : ∀ {vs : List Value}, (∀ u ∈ vs, OkU A u) → Vals (vs.map toV) vs
  | [], _ => .nil
  | u :: r, h => .cons (relV_toV (h u (List.mem_cons_self ..))) (vals_toV fun x hx => h x (List.mem_cons_of_mem _ hx))
/-- an object of the arguments -/
def ArgOb (h : Heap) (A : List Addr) (a : Addr) : Prop := ∃ vs : List Value, vs.length ≤ sizeLine ∧ (∀ u ∈ vs, OkU A u) ∧
  (h.get? a = some { cls := .type "list", data := .seq vs.toArray } ∨ h.get? a = some { cls := .type "tuple", data := .seq vs.toArray })
theorem ArgOb.mono {h : Heap} {A B : List Addr} {a : Addr} (k : ∀ a ∈ A, a ∈ B) (x : ArgOb h A a) : ArgOb h B a := by
  obtain ⟨vs, h1, h2, h3⟩ := x
  exact ⟨vs, h1, fun u hu => (h2 u hu).mono k, h3⟩
theorem wellAll_len {P : Params} {h : Heap} : ∀ {vs : List Value} {ds : List WData}, WellAll P h vs ds → vs.length = ds.length
  | _, _, .nil => rfl
  | _, _, .cons _ b => by
    show _ + 1 = _ + 1
    rw [wellAll_len b]
theorem well_list {P : Params} {h : Heap} {v : Value} {ds : List WData} (x : Well P h v (.list ds)) : ∃ (a : Addr) (vs : List Value), v = .ref a ∧ h.get? a = some { cls := .type "list", data := .seq vs.toArray } ∧ WellAll P h vs ds := by
  cases x with
  | list ho hall => exact ⟨_, _, rfl, ho, hall⟩
theorem well_tuple {P : Params} {h : Heap} {v : Value} {ds : List WData} (x : Well P h v (.tuple ds)) : ∃ (a : Addr) (vs : List Value), v = .ref a ∧ h.get? a = some { cls := .type "tuple", data := .seq vs.toArray } ∧ WellAll P h vs ds := by
  cases x with
  | tuple ho hall => exact ⟨_, _, rfl, ho, hall⟩
theorem well_cons {P : Params} {h : Heap} {us : List Value} {d : WData} {ds : List WData} (x : WellAll P h us (d :: ds)) : ∃ (v : Value) (vs : List Value), us = v :: vs ∧ Well P h v d ∧ WellAll P h vs ds := by
  cases x with
  | cons a b => exact ⟨_, _, rfl, a, b⟩
theorem line_of {n : Nat} (h : n ≤ 1048576) : n ≤ sizeLine := Nat.le_trans h (by decide)
section
variable {P : Params} {h : Heap}
mutual
theorem area_one : ∀ (d : WData) (v : Value), Well P h v d → plW d = true → d.weight ≤ 1048576 → ∃ A : List Addr, OkU A v ∧ ∀ a ∈ A, ArgOb h A a
  | .none, _, x, _, _ => by
    cases x
    exact ⟨[], trivial, fun a m => absurd m (by simp)⟩
  | .bool b, _, x, _, _ => by
    cases x
    exact ⟨[], trivial, fun a m => absurd m (by simp)⟩
  | .int i, _, x, _, _ => by
    cases x
    exact ⟨[], trivial, fun a m => absurd m (by simp)⟩
  | .str s, _, x, _, _ => by
    cases x
    exact ⟨[], trivial, fun a m => absurd m (by simp)⟩
  | .bytes b, _, x, _, _ => by
    cases x
    exact ⟨[], trivial, fun a m => absurd m (by simp)⟩
  | .list ds, _, x, p, z => by
    obtain ⟨a, vs, rfl, ho, hall⟩ := well_list x
    have z2 : WData.weightAll ds ≤ 1048576 := z
    obtain ⟨A, h1, h2⟩ := area_all ds _ hall p fun d hd => Nat.le_trans (weight_mem hd) z2
    have k : ∀ b ∈ A, b ∈ a :: A := fun b hb => List.mem_cons_of_mem _ hb
    refine ⟨a :: A, List.mem_cons_self .., fun b hb => ?_⟩
    rcases List.mem_cons.mp hb with e | m
    · rw [e]
      exact ⟨vs, line_of (by rw [wellAll_len hall]; exact Nat.le_trans (PySem.W.length_le_weightAllW ds) z2), fun u hu => (h1 u hu).mono k, .inl ho⟩
    · exact (h2 b m).mono k
  | .tuple ds, _, x, p, z => by
    obtain ⟨a, vs, rfl, ho, hall⟩ := well_tuple x
    have z2 : WData.weightAll ds ≤ 1048576 := z
    obtain ⟨A, h1, h2⟩ := area_all ds _ hall p fun d hd => Nat.le_trans (weight_mem hd) z2
    have k : ∀ b ∈ A, b ∈ a :: A := fun b hb => List.mem_cons_of_mem _ hb
    refine ⟨a :: A, List.mem_cons_self .., fun b hb => ?_⟩
    rcases List.mem_cons.mp hb with e | m
    · rw [e]
      exact ⟨vs, line_of (by rw [wellAll_len hall]; exact Nat.le_trans (PySem.W.length_le_weightAllW ds) z2), fun u hu => (h1 u hu).mono k, .inr ho⟩
    · exact (h2 b m).mono k
  | .float _, _, _, p, _ => Bool.noConfusion (show false = true from p)
  | .dict _, _, _, p, _ => Bool.noConfusion (show false = true from p)
  | .bytearray _, _, _, p, _ => Bool.noConfusion (show false = true from p)
  | .set _, _, _, p, _ => Bool.noConfusion (show false = true from p)
  | .frozenset _, _, _, p, _ => Bool.noConfusion (show false = true from p)
  | .obj _ _, _, _, p, _ => Bool.noConfusion (show false = true from p)
theorem area_all : ∀ (ds : List WData) (vs : List Value), WellAll P h vs ds → plWs ds = true → (∀ d ∈ ds, d.weight ≤ 1048576) → ∃ A : List Addr, (∀ u ∈ vs, OkU A u) ∧ ∀ a ∈ A, ArgOb h A a
  | [], _, x, _, _ => by
    cases x
    exact ⟨[], fun u m => absurd m (by simp), fun a m => absurd m (by simp)⟩
  | d :: ds, _, x, p, z => by
    obtain ⟨v, vs, rfl, x1, x2⟩ := well_cons x
    have q : plW d = true ∧ plWs ds = true := Bool.and_eq_true_iff.mp p
    obtain ⟨A, a1, a2⟩ := area_one d v x1 q.1 (z d (List.mem_cons_self ..))
    obtain ⟨B, b1, b2⟩ := area_all ds vs x2 q.2 fun e he => z e (List.mem_cons_of_mem _ he)
    have kA : ∀ b ∈ A, b ∈ A ++ B := fun b hb => List.mem_append.mpr (.inl hb)
    have kB : ∀ b ∈ B, b ∈ A ++ B := fun b hb => List.mem_append.mpr (.inr hb)
    refine ⟨A ++ B, fun u hu => ?_, fun b hb => ?_⟩
    · rcases List.mem_cons.mp hu with e | m
      · rw [e]
        exact a1.mono kA
      · exact (b1 u m).mono kB
    · rcases List.mem_append.mp hb with m | m
      · exact (a2 b m).mono kA
      · exact (b2 b m).mono kB
end
end
/-- what is tracked of an argument's object -/
def hoOf (o : Obj) : Option HO := match o.data with
  | .seq vs _ => if (o.cls == Value.type "list") = true then some (.frz o (.lst (vs.toList.map toV))) else some (.frz o (.tup (vs.toList.map toV)))
  | _ => none
def argH (K : PySem.W.Frag) (h : Heap) (A : List Addr) : Hp := fun b => if b ∈ A then (if (K.lookup b).isNone = true then (h.get? b).bind hoOf else none) else none
/-- nothing is tracked but what is known to the object -/
def OnlyF (H : Hp) : Prop := ∀ b, H b = none ∨ ∃ o u, H b = some (.frz o u)
theorem hoOf_lst (vs : List Value) : hoOf { cls := .type "list", data := .seq vs.toArray } = some (.frz { cls := .type "list", data := .seq vs.toArray } (.lst (vs.map toV))) := by
  show (if (Value.type "list" == Value.type "list") = true then some (HO.frz { cls := .type "list", data := .seq vs.toArray } (.lst (vs.toArray.toList.map toV))) else some (HO.frz { cls := .type "list", data := .seq vs.toArray } (.tup (vs.toArray.toList.map toV)))) = _
  rw [if_pos (beq_self_eq_true _)]
theorem hoOf_tup (vs : List Value) : hoOf { cls := .type "tuple", data := .seq vs.toArray } = some (.frz { cls := .type "tuple", data := .seq vs.toArray } (.tup (vs.map toV))) := by
  show (if (Value.type "tuple" == Value.type "list") = true then some (HO.frz { cls := .type "tuple", data := .seq vs.toArray } (.lst (vs.toArray.toList.map toV))) else some (HO.frz { cls := .type "tuple", data := .seq vs.toArray } (.tup (vs.toArray.toList.map toV)))) = _
  rw [if_neg (by decide)]
section
variable {P : Program} {w : World} {K : PySem.W.Frag} {h : Heap} {A : List Addr}
theorem argH_at {b : Addr} {o : Obj} (hb : b ∈ A) (hk : K.lookup b = none) (e : h.get? b = some o) : argH K h A b = hoOf o := by
  unfold argH
  rw [if_pos hb, hk, if_pos (show (none : Option Obj).isNone = true from rfl), e] <;> rfl
theorem of_argH {b : Addr} {u : HO} (q : argH K h A b = some u) : b ∈ A ∧ K.lookup b = none := by
  unfold argH at q
  by_cases hb : b ∈ A
  · rw [if_pos hb] at q
    cases hk : K.lookup b with
    | none => exact ⟨hb, rfl⟩
    | some o =>
      rw [hk, if_neg (by simp)] at q
      cases q
  · rw [if_neg hb] at q
    cases q
/-- what stands tracked -/
theorem argH_is (ar : ∀ a ∈ A, ArgOb h A a) {b : Addr} {u : HO} (q : argH K h A b = some u) : K.lookup b = none ∧ ∃ vs : List Value, vs.length ≤ sizeLine ∧ (∀ u ∈ vs, OkU A u) ∧
    ((h.get? b = some { cls := .type "list", data := .seq vs.toArray } ∧ u = .frz { cls := .type "list", data := .seq vs.toArray } (.lst (vs.map toV))) ∨
     (h.get? b = some { cls := .type "tuple", data := .seq vs.toArray } ∧ u = .frz { cls := .type "tuple", data := .seq vs.toArray } (.tup (vs.map toV)))) := by
  obtain ⟨hb, hk⟩ := of_argH q
  obtain ⟨vs, h1, h2, h3⟩ := ar b hb
  refine ⟨hk, vs, h1, h2, ?_⟩
  rcases h3 with e | e
  · rw [argH_at hb hk e, hoOf_lst] at q
    exact .inl ⟨e, (Option.some.inj q).symm⟩
  · rw [argH_at hb hk e, hoOf_tup] at q
    exact .inr ⟨e, (Option.some.inj q).symm⟩
theorem argH_only (ar : ∀ a ∈ A, ArgOb h A a) : OnlyF (argH K h A) := fun b => by
  cases q : argH K h A b with
  | none => exact .inl rfl
  | some u =>
    obtain ⟨_, vs, _, _, ⟨_, e⟩ | ⟨_, e⟩⟩ := argH_is ar q
    · exact .inr ⟨_, _, by rw [e]⟩
    · exact .inr ⟨_, _, by rw [e]⟩
theorem argH_ok (ar : ∀ a ∈ A, ArgOb h A a) : HOk P w (argH K h A) h := fun b u q => by
  obtain ⟨_, vs, h1, h2, ⟨e, rfl⟩ | ⟨e, rfl⟩⟩ := argH_is ar q
  · exact ⟨e, by rw [List.length_map]; exact h1, vs, _, vals_toV h2, e⟩
  · exact ⟨e, by rw [List.length_map]; exact h1, vs, vals_toV h2, _, e, rfl, _, rfl⟩
theorem seq_inj {c c' : Value} {vs us : List Value} (e : (some { cls := c, data := .seq vs.toArray } : Option Obj) = some { cls := c', data := .seq us.toArray }) : c = c' ∧ vs = us := by
  have e1 := Option.some.inj e
  have e2 : c = c' := congrArg Obj.cls e1
  have e3 : Data.seq vs.toArray = Data.seq us.toArray := congrArg Obj.data e1
  injection e3 with e4
  refine ⟨e2, ?_⟩
  have e5 := congrArg Array.toList e4
  simpa using e5
/-- a list argument -/
theorem argL (KX : K.In h) (ar : ∀ a ∈ A, ArgOb h A a) {a : Addr} {vs : List Value} (ha : a ∈ A) (e : h.get? a = some { cls := .type "list", data := .seq vs.toArray }) : (∀ u ∈ vs, OkU A u) ∧ SqL K (argH K h A) a (vs.map toV) := by
  obtain ⟨us, h1, h2, h3⟩ := ar a ha
  have hu : us = vs := by
    rcases h3 with q | q
    · rw [e] at q
      exact (seq_inj q).2.symm
    · rw [e] at q
      exact absurd (Value.type.inj (seq_inj q).1) (by decide)
  subst hu
  refine ⟨h2, ?_⟩
  cases hk : K.lookup a with
  | none => exact .inl (.inr ⟨_, by rw [argH_at ha hk e, hoOf_lst]⟩)
  | some o =>
    have e2 := KX a o hk
    rw [e] at e2
    obtain rfl := Option.some.inj e2
    exact .inr ⟨_, us.toArray, _, hk, rfl, rfl, rfl, by rw [List.size_toArray]; exact h1, by simpa using vals_toV h2⟩
theorem argT (KX : K.In h) (ar : ∀ a ∈ A, ArgOb h A a) {a : Addr} {vs : List Value} (ha : a ∈ A) (e : h.get? a = some { cls := .type "tuple", data := .seq vs.toArray }) : (∀ u ∈ vs, OkU A u) ∧ SqT K (argH K h A) a (vs.map toV) := by
  obtain ⟨us, h1, h2, h3⟩ := ar a ha
  have hu : us = vs := by
    rcases h3 with q | q
    · rw [e] at q
      exact absurd (Value.type.inj (seq_inj q).1) (by decide)
    · rw [e] at q
      exact (seq_inj q).2.symm
  subst hu
  refine ⟨h2, ?_⟩
  cases hk : K.lookup a with
  | none => exact .inl (.inr ⟨_, by rw [argH_at ha hk e, hoOf_tup]⟩)
  | some o =>
    have e2 := KX a o hk
    rw [e] at e2
    obtain rfl := Option.some.inj e2
    exact .inr ⟨_, us.toArray, _, hk, rfl, rfl, by rw [List.size_toArray]; exact h1, by simpa using vals_toV h2⟩
mutual
theorem dw_one {Pm : Params} (KX : K.In h) (ar : ∀ a ∈ A, ArgOb h A a) : ∀ (d : WData) (v : Value), Well Pm h v d → plW d = true → OkU A v → Dw K (argH K h A) (toV v) d
  | .none, _, x, _, _ => by
    cases x
    exact .non
  | .bool b, _, x, _, _ => by
    cases x
    exact .bl b
  | .int i, _, x, _, _ => by
    cases x
    exact .int i
  | .str s, _, x, _, _ => by
    cases x
    exact .str s
  | .bytes b, _, x, _, _ => by
    cases x
    have z := Dw.byt (K := K) (H := argH K h A) b.toArray
    exact z
  | .list ds, _, x, p, hu => by
    obtain ⟨a, vs, rfl, ho, hall⟩ := well_list x
    obtain ⟨h2, hs⟩ := argL KX ar hu ho
    exact .lst hs (dw_all KX ar ds _ hall p h2)
  | .tuple ds, _, x, p, hu => by
    obtain ⟨a, vs, rfl, ho, hall⟩ := well_tuple x
    obtain ⟨h2, hs⟩ := argT KX ar hu ho
    exact .tup hs (dw_all KX ar ds _ hall p h2)
  | .float _, _, _, p, _ => Bool.noConfusion (show false = true from p)
  | .dict _, _, _, p, _ => Bool.noConfusion (show false = true from p)
  | .bytearray _, _, _, p, _ => Bool.noConfusion (show false = true from p)
  | .set _, _, _, p, _ => Bool.noConfusion (show false = true from p)
  | .frozenset _, _, _, p, _ => Bool.noConfusion (show false = true from p)
  | .obj _ _, _, _, p, _ => Bool.noConfusion (show false = true from p)
theorem dw_all {Pm : Params} (KX : K.In h) (ar : ∀ a ∈ A, ArgOb h A a) : ∀ (ds : List WData) (vs : List Value), WellAll Pm h vs ds → plWs ds = true → (∀ u ∈ vs, OkU A u) → DwAll K (argH K h A) (vs.map toV) ds
  | [], _, x, _, _ => by
    cases x
    exact .nil
  | d :: ds, _, x, p, hu => by
    obtain ⟨v, vs, rfl, x1, x2⟩ := well_cons x
    have q : plW d = true ∧ plWs ds = true := Bool.and_eq_true_iff.mp p
    exact .cons (dw_one KX ar d v x1 q.1 (hu _ (List.mem_cons_self ..))) (dw_all KX ar ds vs x2 q.2 fun u m => hu u (List.mem_cons_of_mem _ m))
end
end
/-! ### the call -/
theorem spec_call {P : Program} {w : World} {K : PySem.W.Frag} {mg mb : Str → Option Value} {CX : CXT} {k : Nat} {fa : Addr} {fd : FuncData} {ps : List Str} {sp : Sp} {s₁ : Shared} {vals : List Value} {ds : List WData} {R : PySem.W.WRecords} {cl : Str → Option Addr} {d0 : WData}
    (KX : K.In s₁.heap) (hns : s₁.heap.Ns mainGlobals mg) (hb : s₁.heap.Ns builtinsNs mb) (hbb : ∀ x : Str, x ≠ "__name__" → mb x = bootBuiltins x) (hlim : s₁.heap.NoLimit) (hg : s₁.gens = #[])
    (hwl : WellAll w.params s₁.heap vals ds) (hpl : plWs ds = true) (hwt : ∀ d ∈ ds, d.weight ≤ 1048576) (hr : Room k callerA)
    (F : ∀ base : Heap, K.In base → base.Ns mainGlobals mg → FnOk P w K mg base CX k fa fd ps sp) (hbind : ∀ (s : Shared) (us : List Value), us.length = ps.length → BindsTo s fd ⟨us, []⟩ (ps.zip us)) (hlen : ds.length = ps.length)
    (hsp : ∀ (H : Hp) (xs : List V), OnlyF H → DwAll K H xs ds → sp xs H (fun v H' => Dw K H' v d0) fun _ _ _ => False)
    (hCX : ∀ H e s', CX [] H s₁ (fun _ _ _ => False) e s' → False) :
    codeAny (model P w) callerA (.call (.ref fa) ⟨vals, []⟩) (fun r s' => ∃ u as, r = .ok (.ret u) ∧ ReadsW R cl s'.heap u d0 as ∧ OldK s₁.heap s'.heap ∧ s'.os = s₁.os ∧ AllBare s'.gens) s₁ := by
  obtain ⟨A, ho, ar⟩ := area_all ds vals hwl hpl hwt
  have hO : OnlyF (argH K s₁.heap A) := argH_only ar
  have hok : HOk P w (argH K s₁.heap A) s₁.heap := argH_ok ar
  have hS := dw_all KX ar ds vals hwl hpl ho
  have hV := vals_toV ho
  have hK : ∀ b u, argH K s₁.heap A b = some u → K.lookup b = none := fun b u q => (argH_is ar q).1
  have noA : ∀ {b : Addr} {o : Obj} {es : Array DictEntry} {ep : Nat}, s₁.heap.get? b = some o → o.data = .dict es ep → argH K s₁.heap A b = none := fun {b o es ep} e d => by
    cases q : argH K s₁.heap A b with
    | none => rfl
    | some u =>
      obtain ⟨_, vs, _, _, ⟨e2, _⟩ | ⟨e2, _⟩⟩ := argH_is ar q
      · rw [e2] at e
        cases e
        have d' : Data.seq vs.toArray _ = Data.dict es ep := d
        cases d'
      · rw [e2] at e
        cases e
        have d' : Data.seq vs.toArray _ = Data.dict es ep := d
        cases d'
  generalize argH K s₁.heap A = H at hO hok hS hK noA
  have base_of : ∀ {b : Addr} {o : Obj}, s₁.heap.get? b = some o → H b = none → (hidT s₁.heap H).get? b = some o := fun e n => hidT_get e n
  have nsK : ∀ {b : Addr} {m : Str → Option Value}, s₁.heap.Ns b m → (hidT s₁.heap H).Ns b m := fun {b m} ⟨o, es, ep, e, d, r⟩ => ⟨o, es, ep, base_of e (noA e d), d, r⟩
  have nK : ∀ b o, K.lookup b = some o → H b = none := fun b o e => by
    cases q : H b with
    | none => rfl
    | some u =>
      rw [hK b u q] at e
      cases e
  have hKb : K.In (hidT s₁.heap H) := fun b o e => base_of (KX b o e) (nK b o e)
  have hM : Mod K mg (hidT s₁.heap H) := ⟨hKb, nsK hns, ⟨mb, nsK hb, hbb⟩, let ⟨mc, h1, h2⟩ := hlim; ⟨mc, nsK h1, h2⟩⟩
  have e0 : Env0 P w K mg (hidT s₁.heap H) callerA [] s₁ H := ⟨rfl, hM, fun b o e => of_hidT e, Nat.le_of_eq (hidT_size _ _), trivial, fun b hb => absurd (show b ∈ ([] : List Addr) from hb) (by simp), hok, .of_eq hg⟩
  have hl : vals.length = ps.length := by rw [wellAll_len hwl]; exact hlen
  refine codeAny_mono ((F _ hKb (nsK hns)).run callerA [] s₁ H ⟨vals, []⟩ vals (vals.map toV) _ _ hr e0 (hbind s₁ vals hl) hV (hsp H _ hO hS)) fun r s' x => ?_
  cases r with
  | error e => exact (hCX H e s' x).elim
  | ok fl =>
    cases fl with
    | next => exact False.elim x
    | brk => exact False.elim x
    | cont => exact False.elim x
    | ret u =>
      obtain ⟨v, H', os, bare, un, hok', r', q⟩ := x
      have kept : ∀ b o, s₁.heap.get? b = some o → s'.heap.get? b = some o := fun b o e => by
        cases q2 : H b with
        | none => exact un.keep b o e q2 (by intro z; exact absurd (show b ∈ ([] : List Addr) from z) (by simp)) (by simp)
        | some u2 =>
          rcases hO b with z | ⟨ob, u3, z⟩
          · rw [q2] at z
            cases z
          · have z2 := un.frzs b ob _ z
            obtain ⟨e1, _⟩ := hok b _ z
            obtain ⟨e2, _⟩ := hok' b _ z2
            rw [e] at e1
            cases e1
            exact e2
      have KX' : K.In s'.heap := fun b o e => kept b o (KX b o e)
      obtain ⟨as, hrd⟩ := Dw.reads (R := R) (cl := cl) hok' KX' d0 v u q r'
      exact ⟨u, as, rfl, hrd, OldK.of_keep kept, os, bare⟩
/-! ### the row -/
theorem layable_weight {ds : List WData} (h : WData.layableAll ds = true) : ∀ d ∈ ds, d.weight ≤ 1048576 := fun d hd =>
  (PySem.W.layableW_iff.mp (List.all_eq_true.mp h d hd)).2.2
theorem encAll_len : ∀ (cs : List Codec) (a : Codec.denoteAll cs), (Codec.encAll cs a).length = cs.length
  | [], _ => rfl
  | c :: cs, a => by
    show (Codec.encAll cs a.2).length + 1 = cs.length + 1
    rw [encAll_len cs a.2]
/-- the goal that k_headS leaves (case hc), from the promise of the row's def: whatever the arguments that the codecs let and the row asks for, the def gives what stands for enc (f ..) -/
theorem walk_spec {r : OpenSpec} {k : Nat} {q : Program} {loose : List Str} {XP : (Str → Option Value) → Heap → Prop} {YP : World → Heap → Prop} {d : DefRec} {K : Params → PySem.W.Frag} {CX : World → CXT} {ps : List Str} {sp : World → Sp}
    (hwell : r.wellSaid = true) (hdf : d.params.defaults = []) (hlen : r.args.length = ps.length) (hr : Room k callerA)
    (hY : ∀ (w : World) (h : Heap), YP w h → (K w.params).In h)
    (F : ∀ (w : World) (mg : Str → Option Value) (fa : Addr) (h : Heap), YP w h → (K w.params).In h → h.Ns mainGlobals mg → mg d.name = some (.ref fa) →
      ∃ fd : FuncData, (∀ (s : Shared) (us : List Value), us.length = ps.length → BindsTo s fd ⟨us, []⟩ (ps.zip us)) ∧
        ∀ base : Heap, (K w.params).In base → base.Ns mainGlobals mg → FnOk r.prog w (K w.params) mg base (CX w) k fa fd ps (sp w))
    (hsp : ∀ (w : World) (H : Hp) (xs : List V) (a : Codec.denoteAll r.args), OnlyF H → Codec.withinAll r.args a = true → Codec.app r.args r.asked a = true → DwAll (K w.params) H xs (Codec.encAll r.args a) →
      sp w xs H (fun v H' => Dw (K w.params) H' v (r.ret.enc (Codec.app r.args r.f a))) fun _ _ _ => False)
    (hCX : ∀ (w : World) (H : Hp) (s : Shared) (e : Value) (s' : Shared), CX w [] H s (fun _ _ _ => False) e s' → False) :
    PySem.W.WalkOS q loose XP YP r d [] (fun f vs => PySem.call f vs) := by
  intro w s_0 s₁ mg mb G Y fa o pm cd doc dV kV ho hd hcd hD hmg hg args vals as hpre hlay hrd hwl hlo
  obtain ⟨a, e1, e2⟩ := PySem.W.os_pre_some hpre
  obtain ⟨e3, hwi⟩ := Codec.encAll_of_decAll r.args args a e1
  subst e3
  have KX := hY w _ Y
  obtain ⟨fd, hb, hF⟩ := F w mg fa _ Y KX G.T.g hmg
  refine PySem.W.enter_call (codeAny_mono (spec_call (R := []) (cl := classAt s_0.heap) (d0 := r.ret.enc (Codec.app r.args r.f a)) KX G.T.g G.T.b G.T.builtins G.T.nolimit hg hwl (pl_encAll _ _) (layable_weight hlay) hr hF hb (by rw [encAll_len]; exact hlen)
    (fun H xs hO hS => hsp w H xs a hO hwi e2 hS) fun H e s' => hCX w H s₁ e s') fun r' s' hq => ?_)
  obtain ⟨u, as', rfl, h1, h2, h3, h4⟩ := hq
  exact ⟨.inl ⟨u, _, as', rfl, fun _ => rfl, h1, (OpenSpec.post_iff hwell hwi _ _).mpr rfl, fun z => Bool.noConfusion (show false = true from z)⟩, h2, h3, h4⟩
/-- the same where the promise hangs on the written part alone -/
theorem walk_specK {r : OpenSpec} {k : Nat} {q : Program} {loose : List Str} {XP : (Str → Option Value) → Heap → Prop} {YP : World → Heap → Prop} {d : DefRec} {K : Params → PySem.W.Frag} {CX : CXT} {ps : List Str} {sp : PySem.W.Frag → Sp}
    (hwell : r.wellSaid = true) (hdf : d.params.defaults = []) (hlen : r.args.length = ps.length) (hr : Room k callerA)
    (hY : ∀ (w : World) (h : Heap), YP w h → (K w.params).In h)
    (F : ∀ (w : World) (mg : Str → Option Value) (fa : Addr) (h : Heap), YP w h → (K w.params).In h → h.Ns mainGlobals mg → mg d.name = some (.ref fa) →
      ∃ fd : FuncData, (∀ (s : Shared) (us : List Value), us.length = ps.length → BindsTo s fd ⟨us, []⟩ (ps.zip us)) ∧
        ∀ base : Heap, (K w.params).In base → base.Ns mainGlobals mg → FnOk r.prog w (K w.params) mg base CX k fa fd ps (sp (K w.params)))
    (hsp : ∀ (K : PySem.W.Frag) (H : Hp) (xs : List V) (a : Codec.denoteAll r.args), OnlyF H → Codec.withinAll r.args a = true → Codec.app r.args r.asked a = true → DwAll K H xs (Codec.encAll r.args a) →
      sp K xs H (fun v H' => Dw K H' v (r.ret.enc (Codec.app r.args r.f a))) fun _ _ _ => False)
    (hCX : ∀ (H : Hp) (s : Shared) (e : Value) (s' : Shared), CX [] H s (fun _ _ _ => False) e s' → False) :
    PySem.W.WalkOS q loose XP YP r d [] (fun f vs => PySem.call f vs) :=
  walk_spec (K := K) (CX := fun _ => CX) (sp := fun w => sp (K w.params)) hwell hdf hlen hr hY F (fun w H xs a h1 h2 h3 h4 => hsp (K w.params) H xs a h1 h2 h3 h4) fun _ H s e s' => hCX H s e s'
end L2

section
/-! The specification by itself: what always holds of its state (H1 among it). -/
namespace Sw
open HeapNs

/-- the object in cell c -/
def At (s : Heap) (c : Nat) (o : Obj) : Prop := s.cells[c]? = some (some o)
/-- an object that the round at work leaves -/
def Kept (s : Heap) (c : Nat) (o : Obj) : Prop := s.phase ≠ 2 ∨ c < s.at_ ∨ o.colour ≠ 0
def Live (s : Heap) (v : Val) : Prop := ∀ c, v = .obj c → ∃ o, At s c o ∧ Kept s c o
/-- not white -/
def NW (s : Heap) (v : Val) : Prop := ∀ c, v = .obj c → ∃ o, At s c o ∧ o.colour ≠ 0

structure Good (s : Heap) : Prop where
  len : s.cells.length = 64
  rlen : s.regs.length = 8
  ph : s.phase ≤ 2
  atb : s.at_ ≤ 64
  col : ∀ c o, At s c o → o.colour ≤ 2
  sl : ∀ c o, At s c o → 1 ≤ o.slots.length ∧ o.slots.length ≤ 8
  regs : ∀ v ∈ s.regs, Live s v
  slots : ∀ c o, At s c o → Kept s c o → ∀ v ∈ o.slots, Live s v
  idle : s.phase = 0 → ∀ c o, At s c o → o.colour = 0
  mreg : s.phase = 1 → ∀ v ∈ s.regs, NW s v
  mblk : s.phase = 1 → ∀ c o, At s c o → o.colour = 2 → ∀ v ∈ o.slots, NW s v
  swept : s.phase = 2 → ∀ c o, At s c o → c < s.at_ → o.colour = 0

theorem At.inj {s : Heap} {c : Nat} {o o' : Obj} (h : At s c o) (h' : At s c o') : o = o' := by
  unfold At at h h'
  rw [h] at h'
  exact Option.some.inj (Option.some.inj h')
theorem At.lt {s : Heap} {c : Nat} {o : Obj} (h : At s c o) : c < s.cells.length := (List.getElem?_eq_some_iff.mp h).1
theorem cell_eq {s : Heap} {c : Nat} {o : Option Obj} (h : s.cells[c]? = some o) : s.cell c = o := by
  unfold Heap.cell
  rw [List.getD_eq_getElem?_getD, h]
  rfl
theorem cell_some {s : Heap} {c : Nat} {o : Obj} (h : s.cell c = some o) : At s c o := by
  unfold Heap.cell at h
  rw [List.getD_eq_getElem?_getD] at h
  unfold At
  cases e : s.cells[c]? with
  | none => rw [e] at h; cases h
  | some x => rw [e] at h; exact congrArg some h
theorem reg_mem {s : Heap} {r : Nat} (h : r < s.regs.length) : s.reg r ∈ s.regs := by
  unfold Heap.reg
  rw [List.getD_eq_getElem?_getD, List.getElem?_eq_getElem h]
  exact List.getElem_mem h
theorem reg_get {s : Heap} {r : Nat} (h : r < s.regs.length) : s.regs[r]? = some (s.reg r) := by
  unfold Heap.reg
  rw [List.getD_eq_getElem?_getD, List.getElem?_eq_getElem h]
  rfl

/-! ### colours raised: white to grey, nothing else -/
def UpO : Option (Option Obj) → Option (Option Obj) → Prop
  | none, none => True
  | some none, some none => True
  | some (some o), some (some o') => o'.slots = o.slots ∧ (o'.colour = o.colour ∨ (o.colour = 0 ∧ o'.colour = 1))
  | _, _ => False
def Up (l l' : List (Option Obj)) : Prop := ∀ c : Nat, UpO l[c]? l'[c]?
theorem UpO.refl (x : Option (Option Obj)) : UpO x x := by
  match x with
  | none => exact True.intro
  | some none => exact True.intro
  | some (some o) => exact ⟨rfl, .inl rfl⟩
theorem Up.refl (l : List (Option Obj)) : Up l l := fun c => UpO.refl _
theorem UpO.trans {x y z : Option (Option Obj)} (h : UpO x y) (h' : UpO y z) : UpO x z := by
  match x, y, z, h, h' with
  | none, none, none, _, _ => exact True.intro
  | some none, some none, some none, _, _ => exact True.intro
  | some (some a), some (some b), some (some c), h, h' =>
    obtain ⟨h1, h2⟩ := h
    obtain ⟨g1, g2⟩ := h'
    refine ⟨g1.trans h1, ?_⟩
    omega
theorem Up.trans {l l' l'' : List (Option Obj)} (h : Up l l') (h' : Up l' l'') : Up l l'' := fun c => (h c).trans (h' c)
theorem Up.fwd {l l' : List (Option Obj)} (h : Up l l') {c : Nat} {o : Obj} (e : l[c]? = some (some o)) : ∃ o', l'[c]? = some (some o') ∧ o'.slots = o.slots ∧ (o'.colour = o.colour ∨ (o.colour = 0 ∧ o'.colour = 1)) := by
  have q := h c
  rw [e] at q
  match x : l'[c]? with
  | none => rw [x] at q; exact q.elim
  | some none => rw [x] at q; exact q.elim
  | some (some o') => rw [x] at q; exact ⟨o', rfl, q⟩
theorem Up.bwd {l l' : List (Option Obj)} (h : Up l l') {c : Nat} {o' : Obj} (e : l'[c]? = some (some o')) : ∃ o, l[c]? = some (some o) ∧ o'.slots = o.slots ∧ (o'.colour = o.colour ∨ (o.colour = 0 ∧ o'.colour = 1)) := by
  have q := h c
  rw [e] at q
  match x : l[c]? with
  | none => rw [x] at q; exact q.elim
  | some none => rw [x] at q; exact q.elim
  | some (some o) => rw [x] at q; exact ⟨o, rfl, q⟩
theorem shadeCell_len (l : List (Option Obj)) (c : Nat) : (shadeCell l c).length = l.length := by
  unfold shadeCell
  split
  · split
    · exact List.length_set
    · rfl
  · rfl
theorem shadeCell_up (l : List (Option Obj)) (c : Nat) : Up l (shadeCell l c) := by
  unfold shadeCell
  split
  · next o e =>
    have e' : l[c]? = some (some o) := by
      rw [List.getD_eq_getElem?_getD] at e
      cases q : l[c]? with
      | none => rw [q] at e; cases e
      | some x => rw [q] at e; exact congrArg some e
    split
    · next h =>
      intro d
      by_cases hd : c = d
      · subst hd
        rw [List.getElem?_set_self (List.getElem?_eq_some_iff.mp e').1, e']
        exact ⟨rfl, .inr ⟨h, rfl⟩⟩
      · rw [List.getElem?_set_ne hd]
        exact UpO.refl _
    · exact Up.refl l
  · exact Up.refl l
theorem shadeCell_nw {l : List (Option Obj)} {c : Nat} {o : Obj} (e : l[c]? = some (some o)) : ∃ o', (shadeCell l c)[c]? = some (some o') ∧ o'.colour ≠ 0 := by
  have e2 : l.getD c none = some o := by rw [List.getD_eq_getElem?_getD, e]; rfl
  unfold shadeCell
  rw [e2]
  dsimp only
  split
  · exact ⟨_, List.getElem?_set_self (List.getElem?_eq_some_iff.mp e).1, by show (1 : Nat) ≠ 0; decide⟩
  · next h => exact ⟨o, e, h⟩
theorem shade_len (l : List (Option Obj)) (v : Val) : (shade l v).length = l.length := by
  cases v with
  | none_ => rfl
  | num z => rfl
  | obj c => exact shadeCell_len l c
theorem shade_up (l : List (Option Obj)) (v : Val) : Up l (shade l v) := by
  cases v with
  | none_ => exact Up.refl l
  | num z => exact Up.refl l
  | obj c => exact shadeCell_up l c
theorem shadeAll_len : ∀ (vs : List Val) (l : List (Option Obj)), (shadeAll l vs).length = l.length
  | [], _ => rfl
  | v :: vs, l => (shadeAll_len vs (shade l v)).trans (shade_len l v)
theorem shadeAll_up : ∀ (vs : List Val) (l : List (Option Obj)), Up l (shadeAll l vs)
  | [], l => Up.refl l
  | v :: vs, l => (shade_up l v).trans (shadeAll_up vs (shade l v))
theorem Up.nw {l l' : List (Option Obj)} (h : Up l l') {c : Nat} (e : ∃ o, l[c]? = some (some o) ∧ o.colour ≠ 0) : ∃ o, l'[c]? = some (some o) ∧ o.colour ≠ 0 := by
  obtain ⟨o, e1, e2⟩ := e
  obtain ⟨o', f1, _, f3⟩ := h.fwd e1
  exact ⟨o', f1, by omega⟩
theorem shadeAll_nw : ∀ (vs : List Val) (l : List (Option Obj)) (c : Nat) (o : Obj), Val.obj c ∈ vs → l[c]? = some (some o) → ∃ o', (shadeAll l vs)[c]? = some (some o') ∧ o'.colour ≠ 0
  | [], _, _, _, m, _ => by cases m
  | v :: vs, l, c, o, m, e => by
    show ∃ o', (shadeAll (shade l v) vs)[c]? = some (some o') ∧ o'.colour ≠ 0
    rcases List.mem_cons.mp m with h | h
    · subst h
      exact (shadeAll_up vs _).nw (shadeCell_nw e)
    · obtain ⟨o1, e1, _⟩ := (shade_up l v).fwd e
      exact shadeAll_nw vs _ c o1 h e1

/-! ### the steps of the sweeper -/
/-- in a phase other than sweeping, colours raised: all but the marking's own part -/
theorem up_good {s : Heap} (g : Good s) {l : List (Option Obj)} (u : Up s.cells l) (ll : l.length = s.cells.length) (hp : s.phase = 1) : Good (s.withCells l) := by
  have nw : ∀ v, NW s v → NW (s.withCells l) v := fun v h c e => u.nw (h c e)
  have live : ∀ v, Live s v → Live (s.withCells l) v := fun v h c e => by
    obtain ⟨o, h1, _⟩ := h c e
    obtain ⟨o', f1, _⟩ := u.fwd h1
    exact ⟨o', f1, .inl (by show s.phase ≠ 2; omega)⟩
  refine ⟨ll.trans g.len, g.rlen, g.ph, g.atb, fun c o h => ?_, fun c o h => ?_, fun v m => live v (g.regs v m), fun c o h _ v m => ?_, fun q => absurd (show s.phase = 0 from q) (by omega), fun _ v m => nw v (g.mreg hp v m), fun _ c o h h2 v m => ?_, fun q => absurd (show s.phase = 2 from q) (by omega)⟩
  · obtain ⟨o0, f1, f2, f3⟩ := u.bwd h
    have := g.col c o0 f1
    omega
  · obtain ⟨o0, f1, f2, f3⟩ := u.bwd h
    rw [f2]
    exact g.sl c o0 f1
  · obtain ⟨o0, f1, f2, f3⟩ := u.bwd h
    rw [f2] at m
    exact live v (g.slots c o0 f1 (.inl (by omega)) v m)
  · obtain ⟨o0, f1, f2, f3⟩ := u.bwd h
    rw [f2] at m
    exact nw v (g.mblk hp c o0 f1 (by omega) v m)
theorem findIdx_get {α : Type} {p : α → Bool} {l : List α} {c : Nat} (h : l.findIdx? p = some c) : ∃ x, l[c]? = some x ∧ p x = true := by
  obtain ⟨h1, h2, _⟩ := List.findIdx?_eq_some_iff_getElem.mp h
  exact ⟨l[c], List.getElem?_eq_getElem h1, h2⟩
theorem findIdx_no {α : Type} {p : α → Bool} {l : List α} (h : l.findIdx? p = none) : ∀ (c : Nat) (x : α), l[c]? = some x → p x = false := fun c x e => by
  have := List.findIdx?_eq_none_iff.mp h x (List.mem_of_getElem? e)
  simpa using this
theorem sweep_begins {s : Heap} (g : Good s) (hp : s.phase = 1) (hn : s.cells.findIdx? isGrey = none) : Good (s.inPhase 2 0) := by
  have ng : ∀ c o, At s c o → o.colour ≠ 1 := fun c o h e => by
    have q := findIdx_no hn c (some o) h
    simp [isGrey, e] at q
  have live : ∀ v, NW s v → Live (s.inPhase 2 0) v := fun v h c e => by
    obtain ⟨o, h1, h2⟩ := h c e
    exact ⟨o, h1, .inr (.inr h2)⟩
  refine ⟨g.len, g.rlen, Nat.le_refl 2, Nat.zero_le _, g.col, g.sl, fun v m => live v (g.mreg hp v m), fun c o h k v m => ?_, fun q => absurd q (by show ¬ (2 : Nat) = 0; decide), fun q => absurd q (by show ¬ (2 : Nat) = 1; decide), fun q => absurd q (by show ¬ (2 : Nat) = 1; decide), fun _ c o _ hc => absurd hc (Nat.not_lt_zero c)⟩
  have hc : o.colour ≠ 0 := by
    rcases k with k | k | k
    · exact absurd rfl k
    · exact absurd k (Nat.not_lt_zero c)
    · exact k
  have h1 := ng c o h
  have h2 := g.col c o h
  exact live v (g.mblk hp c o h (by omega) v m)
theorem good_mark {s : Heap} (g : Good s) (hp : s.phase = 1) : Good (markStep s) := by
  unfold markStep
  split
  · next hn => exact sweep_begins g hp hn
  · next c hc =>
    obtain ⟨x, hx, hg⟩ := findIdx_get hc
    cases x with
    | none => cases hg
    | some o =>
    have ho : At s c o := hx
    have hcol : o.colour = 1 := by simpa [isGrey] using hg
    rw [cell_eq hx]
    dsimp only
    -- the grey object made black: all but its own slots' shading
    have ls : (s.cells.set c (some ⟨2, o.slots⟩)).length = s.cells.length := List.length_set
    have fwd : ∀ d p, At s d p → ∃ p', (s.cells.set c (some ⟨2, o.slots⟩))[d]? = some (some p') ∧ p'.slots = p.slots ∧ (d ≠ c → p' = p) ∧ (d = c → p'.colour = 2) := fun d p h => by
      by_cases hd : c = d
      · subst hd
        have e := ho.inj h
        subst e
        exact ⟨_, List.getElem?_set_self (At.lt ho), rfl, fun q => absurd rfl q, fun _ => rfl⟩
      · exact ⟨p, by rw [List.getElem?_set_ne hd]; exact h, rfl, fun _ => rfl, fun q => absurd q.symm hd⟩
    have bwd : ∀ d p', (s.cells.set c (some ⟨2, o.slots⟩))[d]? = some (some p') → (d = c ∧ p' = ⟨2, o.slots⟩) ∨ (d ≠ c ∧ At s d p') := fun d p' h => by
      by_cases hd : c = d
      · subst hd
        rw [List.getElem?_set_self (At.lt ho)] at h
        exact .inl ⟨rfl, (Option.some.inj (Option.some.inj h)).symm⟩
      · rw [List.getElem?_set_ne hd] at h
        exact .inr ⟨fun q => hd q.symm, h⟩
    have u := shadeAll_up o.slots (s.cells.set c (some ⟨2, o.slots⟩))
    have nw : ∀ v, NW s v → NW (s.withCells (shadeAll (s.cells.set c (some ⟨2, o.slots⟩)) o.slots)) v := fun v h d e => by
      obtain ⟨p, h1, h2⟩ := h d e
      obtain ⟨p', f1, _, f3, f4⟩ := fwd d p h1
      refine u.nw ⟨p', f1, ?_⟩
      by_cases hd : d = c
      · rw [f4 hd]; decide
      · rw [f3 hd]; exact h2
    have live : ∀ v, Live s v → Live (s.withCells (shadeAll (s.cells.set c (some ⟨2, o.slots⟩)) o.slots)) v := fun v h d e => by
      obtain ⟨p, h1, _⟩ := h d e
      obtain ⟨p', f1, _⟩ := fwd d p h1
      obtain ⟨p2, f5, _⟩ := u.fwd f1
      exact ⟨p2, f5, .inl (by show s.phase ≠ 2; omega)⟩
    refine ⟨(shadeAll_len _ _).trans (ls.trans g.len), g.rlen, g.ph, g.atb, fun d p h => ?_, fun d p h => ?_, fun v m => live v (g.regs v m), fun d p h _ v m => ?_, fun q => absurd (show s.phase = 0 from q) (by omega), fun _ v m => nw v (g.mreg hp v m), fun _ d p h h2 v m => ?_, fun q => absurd (show s.phase = 2 from q) (by omega)⟩
    · obtain ⟨p0, f1, f2, f3⟩ := u.bwd h
      rcases bwd d p0 f1 with ⟨_, rfl⟩ | ⟨_, h3⟩
      · dsimp only at f3; omega
      · have := g.col d p0 h3; omega
    · obtain ⟨p0, f1, f2, f3⟩ := u.bwd h
      rw [f2]
      rcases bwd d p0 f1 with ⟨_, rfl⟩ | ⟨_, h3⟩
      · exact g.sl c o ho
      · exact g.sl d p0 h3
    · obtain ⟨p0, f1, f2, f3⟩ := u.bwd h
      rw [f2] at m
      rcases bwd d p0 f1 with ⟨_, rfl⟩ | ⟨_, h3⟩
      · exact live v (g.slots c o ho (.inl (by omega)) v m)
      · exact live v (g.slots d p0 h3 (.inl (by omega)) v m)
    · obtain ⟨p0, f1, f2, f3⟩ := u.bwd h
      rw [f2] at m
      rcases bwd d p0 f1 with ⟨_, rfl⟩ | ⟨_, h3⟩
      · intro e he
        subst he
        obtain ⟨q, hq, _⟩ := g.slots c o ho (.inl (by omega)) _ m e rfl
        obtain ⟨q', f1', _⟩ := fwd e q hq
        exact shadeAll_nw o.slots _ e q' m f1'
      · exact nw v (g.mblk hp d p0 h3 (by omega) v m)
theorem good_sweep {s : Heap} (g : Good s) (hp : s.phase = 2) : Good (sweepStep s) := by
  unfold sweepStep
  split
  · next h64 =>
    have h64 : 64 ≤ s.at_ := h64
    have all : ∀ c o, At s c o → c < s.at_ := fun c o h => by have := h.lt; have := g.len; omega
    have live : ∀ v, Live s v → Live (s.inPhase 0 0) v := fun v h c e => by
      obtain ⟨o, h1, _⟩ := h c e
      exact ⟨o, h1, .inl (by show (0 : Nat) ≠ 2; decide)⟩
    exact ⟨g.len, g.rlen, Nat.zero_le _, Nat.zero_le _, g.col, g.sl, fun v m => live v (g.regs v m), fun c o h _ v m => live v (g.slots c o h (.inr (.inl (all c o h))) v m), fun _ c o h => g.swept hp c o h (all c o h), fun q => absurd q (by show ¬ (0 : Nat) = 1; decide), fun q => absurd q (by show ¬ (0 : Nat) = 1; decide), fun q => absurd q (by show ¬ (0 : Nat) = 2; decide)⟩
  · next h64 =>
    have h64 : s.at_ < 64 := Nat.lt_of_not_le h64
    have hlt : s.at_ < s.cells.length := by rw [g.len]; exact h64
    have ne : ∀ {d : Nat}, d ≠ s.at_ → (s.cells.set s.at_ (swept (s.cell s.at_)))[d]? = s.cells[d]? := fun hd => List.getElem?_set_ne fun q => hd q.symm
    have self : (s.cells.set s.at_ (swept (s.cell s.at_)))[s.at_]? = some (swept (s.cell s.at_)) := List.getElem?_set_self hlt
    have bwd : ∀ d p', (s.cells.set s.at_ (swept (s.cell s.at_)))[d]? = some (some p') → (d = s.at_ ∧ ∃ p, At s d p ∧ p.colour ≠ 0 ∧ p' = ⟨0, p.slots⟩) ∨ (d ≠ s.at_ ∧ At s d p') := fun d p' h => by
      by_cases hd : d = s.at_
      · subst hd
        rw [self] at h
        have h := Option.some.inj h
        cases e : s.cell s.at_ with
        | none => rw [e] at h; cases h
        | some p =>
          rw [e] at h
          unfold swept at h
          dsimp only at h
          split at h
          · cases h
          · next hc => exact .inl ⟨rfl, p, cell_some e, hc, (Option.some.inj h).symm⟩
      · rw [ne hd] at h
        exact .inr ⟨hd, h⟩
    have live : ∀ v, Live s v → Live ((s.withCells (s.cells.set s.at_ (swept (s.cell s.at_)))).inPhase 2 (s.at_ + 1)) v := fun v h c e => by
      obtain ⟨o, h1, k⟩ := h c e
      by_cases hc : c = s.at_
      · have ho : o.colour ≠ 0 := by
          rcases k with k | k | k
          · exact absurd hp k
          · omega
          · exact k
        refine ⟨⟨0, o.slots⟩, ?_, .inr (.inl (by show c < s.at_ + 1; omega))⟩
        show (s.cells.set s.at_ (swept (s.cell s.at_)))[c]? = _
        subst hc
        rw [self, cell_eq h1]
        unfold swept
        dsimp only
        rw [if_neg ho]
      · refine ⟨o, ?_, ?_⟩
        · show (s.cells.set s.at_ (swept (s.cell s.at_)))[c]? = _
          rw [ne hc]
          exact h1
        · rcases k with k | k | k
          · exact absurd hp k
          · exact .inr (.inl (by show c < s.at_ + 1; omega))
          · exact .inr (.inr k)
    refine ⟨List.length_set.trans g.len, g.rlen, Nat.le_refl 2, by show s.at_ + 1 ≤ 64; omega, fun d p h => ?_, fun d p h => ?_, fun v m => live v (g.regs v m), fun d p h k v m => ?_, fun q => absurd q (by show ¬ (2 : Nat) = 0; decide), fun q => absurd q (by show ¬ (2 : Nat) = 1; decide), fun q => absurd q (by show ¬ (2 : Nat) = 1; decide), fun _ d p h hd => ?_⟩
    · rcases bwd d p h with ⟨_, q, _, _, rfl⟩ | ⟨_, h⟩
      · exact Nat.zero_le _
      · exact g.col d p h
    · rcases bwd d p h with ⟨_, q, hq, _, rfl⟩ | ⟨_, h⟩
      · exact g.sl d q hq
      · exact g.sl d p h
    · rcases bwd d p h with ⟨_, q, hq, hc, rfl⟩ | ⟨hd, h⟩
      · exact live v (g.slots d q hq (.inr (.inr hc)) v m)
      · refine live v (g.slots d p h ?_ v m)
        rcases k with k | k | k
        · exact absurd rfl k
        · have k : d < s.at_ + 1 := k
          exact .inr (.inl (by omega))
        · exact .inr (.inr k)
    · have hd : d < s.at_ + 1 := hd
      rcases bwd d p h with ⟨_, q, hq, hc, rfl⟩ | ⟨hd', h⟩
      · rfl
      · exact g.swept hp d p h (by omega)
theorem good_one {s : Heap} (g : Good s) : Good (oneStep s) := by
  unfold oneStep
  split
  · next h => exact good_mark g h
  · split
    · next h => exact good_sweep g h
    · exact g
theorem good_steps : ∀ (n : Nat) (s : Heap), Good s → Good (steps n s).1
  | 0, _, g => g
  | n + 1, s, g => by
    show Good (if s.phase = 0 then (s, 0) else ((steps n (oneStep s)).1, (steps n (oneStep s)).2 + 1)).1
    split
    · exact g
    · exact good_steps n _ (good_one g)
theorem good_begun {s : Heap} (g : Good s) (hp : s.phase = 0) : Good (begun s) := by
  unfold begun
  have u := shadeAll_up s.regs s.cells
  have live : ∀ v, Live s v → Live ((s.withCells (shadeAll s.cells s.regs)).inPhase 1 0) v := fun v h c e => by
    obtain ⟨o, h1, _⟩ := h c e
    obtain ⟨o', f1, _⟩ := u.fwd h1
    exact ⟨o', f1, .inl (by show (1 : Nat) ≠ 2; decide)⟩
  refine ⟨(shadeAll_len _ _).trans g.len, g.rlen, by show 1 ≤ 2; decide, Nat.zero_le _, fun c o h => ?_, fun c o h => ?_, fun v m => live v (g.regs v m), fun c o h _ v m => ?_, fun q => absurd q (by show ¬ (1 : Nat) = 0; decide), fun _ v m c e => ?_, fun _ c o h h2 v m => ?_, fun q => absurd q (by show ¬ (1 : Nat) = 2; decide)⟩
  · obtain ⟨o0, f1, f2, f3⟩ := u.bwd h
    have := g.col c o0 f1
    omega
  · obtain ⟨o0, f1, f2, f3⟩ := u.bwd h
    rw [f2]
    exact g.sl c o0 f1
  · obtain ⟨o0, f1, f2, f3⟩ := u.bwd h
    rw [f2] at m
    exact live v (g.slots c o0 f1 (.inl (by omega)) v m)
  · subst e
    obtain ⟨o, h1, _⟩ := g.regs _ m c rfl
    exact shadeAll_nw s.regs s.cells c o m h1
  · obtain ⟨o0, f1, f2, f3⟩ := u.bwd h
    have := g.idle hp c o0 f1
    omega

/-! ### what hands do -/
theorem good_reg {s : Heap} (g : Good s) (r : Nat) {v : Val} (hv : Live s v) (hw : s.phase = 1 → NW s v) : Good (s.withReg r v) := by
  refine ⟨g.len, List.length_set.trans g.rlen, g.ph, g.atb, g.col, g.sl, fun x m => ?_, g.slots, g.idle, fun hp x m => ?_, g.mblk, g.swept⟩
  · rcases List.mem_or_eq_of_mem_set m with m | rfl
    · exact g.regs x m
    · exact hv
  · rcases List.mem_or_eq_of_mem_set m with m | rfl
    · exact g.mreg hp x m
    · exact hw hp
theorem live_none (s : Heap) : Live s .none_ := fun _ e => nomatch e
theorem live_num (s : Heap) (z : Int) : Live s (.num z) := fun _ e => nomatch e
theorem nw_none (s : Heap) : NW s .none_ := fun _ e => nomatch e
theorem nw_num (s : Heap) (z : Int) : NW s (.num z) := fun _ e => nomatch e
/-- a new object in a free cell -/
theorem good_new {s : Heap} (g : Good s) {c n : Nat} (hc : s.cells[c]? = some none) (h1 : 1 ≤ n) (h2 : n ≤ 8) (r : Nat) : Good ((s.withCells (s.cells.set c (some ⟨s.newColour c, List.replicate n .none_⟩))).withReg r (.obj c)) := by
  have hlt : c < s.cells.length := (List.getElem?_eq_some_iff.mp hc).1
  have self : (s.cells.set c (some ⟨s.newColour c, List.replicate n .none_⟩))[c]? = some (some ⟨s.newColour c, List.replicate n .none_⟩) := List.getElem?_set_self hlt
  have nec : ∀ d o, At s d o → d ≠ c := fun d o h e => by
    subst e
    unfold At at h
    rw [hc] at h
    cases h
  have fwd : ∀ d o, At s d o → (s.cells.set c (some ⟨s.newColour c, List.replicate n .none_⟩))[d]? = some (some o) := fun d o h => by
    rw [List.getElem?_set_ne fun q => nec d o h q.symm]
    exact h
  have bwd : ∀ d p, (s.cells.set c (some ⟨s.newColour c, List.replicate n .none_⟩))[d]? = some (some p) → (d = c ∧ p = ⟨s.newColour c, List.replicate n .none_⟩) ∨ (d ≠ c ∧ At s d p) := fun d p h => by
    by_cases hd : d = c
    · subst hd
      rw [self] at h
      exact .inl ⟨rfl, (Option.some.inj (Option.some.inj h)).symm⟩
    · rw [List.getElem?_set_ne fun q => hd q.symm] at h
      exact .inr ⟨hd, h⟩
  have none_of : ∀ v ∈ List.replicate n Val.none_, v = .none_ := fun v m => List.eq_of_mem_replicate m
  have live : ∀ v, Live s v → Live (s.withCells (s.cells.set c (some ⟨s.newColour c, List.replicate n .none_⟩))) v := fun v h d e => by
    obtain ⟨o, h1, k⟩ := h d e
    exact ⟨o, fwd d o h1, k⟩
  have nw : ∀ v, NW s v → NW (s.withCells (s.cells.set c (some ⟨s.newColour c, List.replicate n .none_⟩))) v := fun v h d e => by
    obtain ⟨o, h1, k⟩ := h d e
    exact ⟨o, fwd d o h1, k⟩
  have g1 : Good (s.withCells (s.cells.set c (some ⟨s.newColour c, List.replicate n .none_⟩))) := by
    refine ⟨List.length_set.trans g.len, g.rlen, g.ph, g.atb, fun d p h => ?_, fun d p h => ?_, fun v m => live v (g.regs v m), fun d p h k v m => ?_, fun hp d p h => ?_, fun hp v m => nw v (g.mreg hp v m), fun hp d p h hb v m => ?_, fun hp d p h hd => ?_⟩
    · rcases bwd d p h with ⟨_, rfl⟩ | ⟨_, h⟩
      · show s.newColour c ≤ 2
        unfold Heap.newColour
        split
        · decide
        · split <;> decide
      · exact g.col d p h
    · rcases bwd d p h with ⟨_, rfl⟩ | ⟨_, h⟩
      · show 1 ≤ (List.replicate n Val.none_).length ∧ (List.replicate n Val.none_).length ≤ 8
        rw [List.length_replicate]
        exact ⟨h1, h2⟩
      · exact g.sl d p h
    · rcases bwd d p h with ⟨_, rfl⟩ | ⟨_, h⟩
      · rw [none_of v m]
        exact live_none _
      · exact live v (g.slots d p h k v m)
    · have hp : s.phase = 0 := hp
      rcases bwd d p h with ⟨_, rfl⟩ | ⟨_, h⟩
      · show s.newColour c = 0
        unfold Heap.newColour
        rw [if_neg (by omega), if_neg (by omega)]
      · exact g.idle hp d p h
    · rcases bwd d p h with ⟨_, rfl⟩ | ⟨_, h⟩
      · rw [none_of v m]
        exact nw_none _
      · exact nw v (g.mblk hp d p h hb v m)
    · have hp : s.phase = 2 := hp
      have hd : d < s.at_ := hd
      rcases bwd d p h with ⟨rfl, rfl⟩ | ⟨_, h⟩
      · show s.newColour d = 0
        unfold Heap.newColour
        rw [if_neg (by omega), if_neg (by omega)]
      · exact g.swept hp d p h hd
  refine good_reg g1 r (fun d e => ?_) (fun hp d e => ?_)
  · cases e
    refine ⟨_, self, ?_⟩
    by_cases hp : s.phase = 2
    · by_cases ha : s.at_ ≤ c
      · refine .inr (.inr ?_)
        show s.newColour c ≠ 0
        unfold Heap.newColour
        rw [if_neg (by omega), if_pos ⟨hp, ha⟩]
        decide
      · exact .inr (.inl (Nat.lt_of_not_le ha))
    · exact .inl hp
  · cases e
    refine ⟨_, self, ?_⟩
    have hp : s.phase = 1 := hp
    show s.newColour c ≠ 0
    unfold Heap.newColour
    rw [if_pos hp]
    decide
theorem good_load {s : Heap} (g : Good s) (r : Nat) {v : Val} (hv : Live s v) : Good (load s r v) := by
  unfold load
  split
  · next hp =>
    have u := shade_up s.cells v
    have g1 := up_good g u (shade_len _ _) hp
    refine good_reg g1 r (fun c e => ?_) (fun _ c e => ?_)
    · obtain ⟨o, h1, _⟩ := hv c e
      obtain ⟨o', f1, _⟩ := u.fwd h1
      exact ⟨o', f1, .inl (by show s.phase ≠ 2; omega)⟩
    · subst e
      obtain ⟨o, h1, _⟩ := hv c rfl
      exact shadeCell_nw h1
  · next hp => exact good_reg g r hv fun q => absurd q hp
theorem good_put {s : Heap} (g : Good s) {c : Nat} {o : Obj} (hc : At s c o) (k : Nat) {v : Val} (hv : Live s v) (hw : s.phase = 1 → NW s v) : Good (s.withCells (s.cells.set c (some ⟨o.colour, o.slots.set k v⟩))) := by
  have self : (s.cells.set c (some ⟨o.colour, o.slots.set k v⟩))[c]? = some (some ⟨o.colour, o.slots.set k v⟩) := List.getElem?_set_self hc.lt
  have fwd : ∀ d p, At s d p → ∃ p', (s.cells.set c (some ⟨o.colour, o.slots.set k v⟩))[d]? = some (some p') ∧ p'.colour = p.colour := fun d p h => by
    by_cases hd : d = c
    · subst hd
      have e := hc.inj h
      subst e
      exact ⟨_, self, rfl⟩
    · rw [List.getElem?_set_ne fun q => hd q.symm]
      exact ⟨p, h, rfl⟩
  have bwd : ∀ d p', (s.cells.set c (some ⟨o.colour, o.slots.set k v⟩))[d]? = some (some p') → ∃ p, At s d p ∧ p'.colour = p.colour ∧ p'.slots.length = p.slots.length ∧ ∀ x ∈ p'.slots, x ∈ p.slots ∨ x = v := fun d p' h => by
    by_cases hd : d = c
    · subst hd
      rw [self] at h
      have e := Option.some.inj (Option.some.inj h)
      subst e
      refine ⟨o, hc, rfl, List.length_set, fun x m => List.mem_or_eq_of_mem_set m⟩
    · rw [List.getElem?_set_ne fun q => hd q.symm] at h
      exact ⟨p', h, rfl, rfl, fun x m => .inl m⟩
  have live : ∀ x, Live s x → Live (s.withCells (s.cells.set c (some ⟨o.colour, o.slots.set k v⟩))) x := fun x h d e => by
    obtain ⟨p, h1, q⟩ := h d e
    obtain ⟨p', f1, f2⟩ := fwd d p h1
    refine ⟨p', f1, ?_⟩
    rcases q with q | q | q
    · exact .inl q
    · exact .inr (.inl q)
    · exact .inr (.inr (by rw [f2]; exact q))
  have nw : ∀ x, NW s x → NW (s.withCells (s.cells.set c (some ⟨o.colour, o.slots.set k v⟩))) x := fun x h d e => by
    obtain ⟨p, h1, q⟩ := h d e
    obtain ⟨p', f1, f2⟩ := fwd d p h1
    exact ⟨p', f1, by rw [f2]; exact q⟩
  refine ⟨List.length_set.trans g.len, g.rlen, g.ph, g.atb, fun d p h => ?_, fun d p h => ?_, fun x m => live x (g.regs x m), fun d p h q x m => ?_, fun hp d p h => ?_, fun hp x m => nw x (g.mreg hp x m), fun hp d p h hb x m => ?_, fun hp d p h hd => ?_⟩
  · obtain ⟨p0, f1, f2, _⟩ := bwd d p h
    rw [f2]
    exact g.col d p0 f1
  · obtain ⟨p0, f1, _, f3, _⟩ := bwd d p h
    rw [f3]
    exact g.sl d p0 f1
  · obtain ⟨p0, f1, f2, _, f4⟩ := bwd d p h
    rcases f4 x m with m | rfl
    · refine live x (g.slots d p0 f1 ?_ x m)
      rcases q with q | q | q
      · exact .inl q
      · exact .inr (.inl q)
      · exact .inr (.inr (by rw [← f2]; exact q))
    · exact live _ hv
  · obtain ⟨p0, f1, f2, _⟩ := bwd d p h
    rw [f2]
    exact g.idle hp d p0 f1
  · obtain ⟨p0, f1, f2, _, f4⟩ := bwd d p h
    rcases f4 x m with m | rfl
    · exact nw x (g.mblk hp d p0 f1 (by rw [← f2]; exact hb) x m)
    · exact nw _ (hw hp)
  · obtain ⟨p0, f1, f2, _⟩ := bwd d p h
    rw [f2]
    exact g.swept hp d p0 f1 hd

/-- the object in a register: it stands in its cell, and is kept -/
theorem object_some {s : Heap} {r : Nat} {x : Nat × Obj} (h : object s r = some x) : s.reg r = .obj x.1 ∧ At s x.1 x.2 := by
  unfold object at h
  cases e : s.reg r with
  | none_ => rw [e] at h; cases h
  | num z => rw [e] at h; cases h
  | obj c =>
    rw [e] at h
    dsimp only at h
    cases q : s.cell c with
    | none => rw [q] at h; cases h
    | some o =>
      rw [q] at h
      have h := Option.some.inj h
      subst h
      exact ⟨rfl, cell_some q⟩
theorem object_obj {s : Heap} (g : Good s) {r c : Nat} (hr : r < 8) (h : s.reg r = .obj c) : ∃ o, At s c o ∧ Kept s c o ∧ object s r = some (c, o) := by
  have m := reg_mem (s := s) (r := r) (by rw [g.rlen]; exact hr)
  obtain ⟨o, h1, k⟩ := g.regs _ m c h
  refine ⟨o, h1, k, ?_⟩
  unfold object
  rw [h]
  dsimp only
  rw [cell_eq h1]
theorem object_no {s : Heap} {r : Nat} (h : ∀ c, s.reg r ≠ .obj c) : object s r = none := by
  unfold object
  cases e : s.reg r with
  | none_ => rfl
  | num z => rfl
  | obj c => exact absurd e (h c)
theorem isReg_iff {r : Nat} : isReg r = true ↔ r < 8 := by
  unfold isReg
  exact decide_eq_true_iff
theorem not_bad {a b : Bool} (h : ¬ (a = false ∨ b = false)) : a = true ∧ b = true := by
  cases a <;> cases b <;> simp_all
theorem good_step {s : Heap} (g : Good s) (c : HeapNs.Call) : Good (step s c).1 := by
  cases c with
  | new r n =>
    unfold step
    dsimp only
    split
    · exact g
    · next h =>
      split
      · exact g
      · next c hc =>
        obtain ⟨x, hx, hf⟩ := findIdx_get hc
        cases x with
        | some o => cases hf
        | none =>
          have h8 : ¬ 8 < n := fun q => h (.inr (.inr q))
          have h0 : ¬ n = 0 := fun q => h (.inr (.inl q))
          exact good_new g hx (by omega) (by omega) r
  | get d r k =>
    unfold step
    dsimp only
    split
    · exact g
    · next hb =>
      split
      · exact g
      · next x hx =>
        split
        · exact g
        · next v hv =>
          obtain ⟨h1, h2⟩ := object_some hx
          have hr := isReg_iff.mp (not_bad hb).2
          obtain ⟨o, ho, hk, _⟩ := object_obj g hr h1
          have e := ho.inj h2
          subst e
          exact good_load g d (g.slots _ _ ho hk v (List.mem_of_getElem? hv))
  | put r k d =>
    unfold step
    dsimp only
    split
    · exact g
    · next hb =>
      split
      · exact g
      · next x hx =>
        split
        · exact g
        · obtain ⟨h1, h2⟩ := object_some hx
          have hd := isReg_iff.mp (not_bad hb).2
          have m := reg_mem (s := s) (r := d) (by rw [g.rlen]; exact hd)
          exact good_put g h2 k (g.regs _ m) fun hp => g.mreg hp _ m
  | num r z =>
    unfold step
    dsimp only
    split
    · exact g
    · exact good_reg g r (live_num s z) fun _ => nw_num s z
  | clear r =>
    unfold step
    dsimp only
    split
    · exact g
    · exact good_reg g r (live_none s) fun _ => nw_none s
  | copy r d =>
    unfold step
    dsimp only
    split
    · exact g
    · next hb =>
      have hd := isReg_iff.mp (not_bad hb).2
      have m := reg_mem (s := s) (r := d) (by rw [g.rlen]; exact hd)
      exact good_reg g r (g.regs _ m) fun hp => g.mreg hp _ m
  | look r => exact g
  | slot r k => exact g
  | same r d => exact g
  | tree r => exact g
  | begin_ =>
    unfold step
    dsimp only
    split
    · exact g
    · next h => exact good_begun g (Decidable.not_not.mp h)
  | work n =>
    unfold step
    dsimp only
    split
    · exact g
    · exact good_steps n s g
  | phase => exact g
  | count => exact g
theorem good_start : Good HeapNs.start := by
  have no : ∀ c o, ¬ At HeapNs.start c o := fun c o h => by
    have h : (List.replicate CELLS (none : Option Obj))[c]? = some (some o) := h
    have q := List.eq_of_mem_replicate (List.mem_of_getElem? h)
    cases q
  have nr : ∀ v ∈ HeapNs.start.regs, v = .none_ := fun v m => List.eq_of_mem_replicate (show v ∈ List.replicate REGS Val.none_ from m)
  exact ⟨List.length_replicate, List.length_replicate, Nat.zero_le _, Nat.zero_le _, fun c o h => (no c o h).elim, fun c o h => (no c o h).elim, fun v m => by rw [nr v m]; exact live_none _, fun c o h => (no c o h).elim, fun _ c o h => (no c o h).elim, fun _ v m => by rw [nr v m]; exact nw_none _, fun _ c o h => (no c o h).elim, fun _ c o h => (no c o h).elim⟩
end Sw

end
section
/-! The specification by itself: the calls read from the list, the answers told, what is come to. -/
namespace Sw
open HeapNs

/-! ### reading -/
theorem ite_some {α : Type} {c : Prop} [Decidable c] {x y : α} {r : Option α} (h : (if c then some x else r) = some y) : (c ∧ x = y) ∨ r = some y := by
  by_cases hc : c
  · rw [if_pos hc] at h
    exact .inl ⟨hc, Option.some.inj h⟩
  · rw [if_neg hc] at h
    exact .inr h
inductive Sh : Int → Nat → Nat → Prop where
  | s0 : Sh 0 2 0 | s1 : Sh 1 3 0 | s2 : Sh 2 3 0 | s3 : Sh 3 2 0 | s4 : Sh 4 1 0 | s5 : Sh 5 2 0 | s6 : Sh 6 1 0 | s7 : Sh 7 2 0 | s8 : Sh 8 2 0 | s9 : Sh 9 1 0 | s10 : Sh 10 0 0 | s11 : Sh 11 1 0 | s12 : Sh 12 0 0 | s13 : Sh 13 0 0
theorem shape_sh {p : Int} {n k : Nat} (h : PyWrheap.shape p = some (n, k)) : Sh p n k := by
  unfold PyWrheap.shape at h
  rcases ite_some h with ⟨rfl, e⟩ | h
  · cases e; exact .s0
  rcases ite_some h with ⟨rfl, e⟩ | h
  · cases e; exact .s1
  rcases ite_some h with ⟨rfl, e⟩ | h
  · cases e; exact .s2
  rcases ite_some h with ⟨rfl, e⟩ | h
  · cases e; exact .s3
  rcases ite_some h with ⟨rfl, e⟩ | h
  · cases e; exact .s4
  rcases ite_some h with ⟨rfl, e⟩ | h
  · cases e; exact .s5
  rcases ite_some h with ⟨rfl, e⟩ | h
  · cases e; exact .s6
  rcases ite_some h with ⟨rfl, e⟩ | h
  · cases e; exact .s7
  rcases ite_some h with ⟨rfl, e⟩ | h
  · cases e; exact .s8
  rcases ite_some h with ⟨rfl, e⟩ | h
  · cases e; exact .s9
  rcases ite_some h with ⟨rfl, e⟩ | h
  · cases e; exact .s10
  rcases ite_some h with ⟨rfl, e⟩ | h
  · cases e; exact .s11
  rcases ite_some h with ⟨rfl, e⟩ | h
  · cases e; exact .s12
  rcases ite_some h with ⟨rfl, e⟩ | h
  · cases e; exact .s13
  cases h
theorem shape_zero {p : Int} {n k : Nat} (h : PyWrheap.shape p = some (n, k)) : k = 0 := by
  cases shape_sh h <;> rfl
theorem call_eq {p : Int} {r : List Int} : PyFlat.call PyWrheap.shape (p :: r) = match PyWrheap.shape p with
    | none => none
    | some (n, _) => if r.length < n then none else some ([p :: r.take n], r.drop n) := by
  unfold PyFlat.call
  dsimp only
  cases e : PyWrheap.shape p with
  | none => rfl
  | some x =>
    obtain ⟨n, k⟩ := x
    have hk := shape_zero e
    subst hk
    dsimp only
    rfl
theorem fuel_eq : ∀ (N : Nat) (l : List Int) (f : Nat), l.length ≤ N → l.length ≤ f → PyFlat.calls PyWrheap.shape f l = PyFlat.calls PyWrheap.shape l.length l
  | _, [], f, _, _ => by cases f <;> rfl
  | 0, p :: r, _, h, _ => absurd h (by simp)
  | N + 1, p :: r, 0, _, h => absurd h (by simp)
  | N + 1, p :: r, f + 1, h, h2 => by
    have hr : r.length ≤ N := by simpa using h
    have hf : r.length ≤ f := by simpa using h2
    show (match PyFlat.call PyWrheap.shape (p :: r) with
      | none => none
      | some (c, t) => match PyFlat.calls PyWrheap.shape f t with
        | none => none
        | some cs => some (c :: cs)) = (match PyFlat.call PyWrheap.shape (p :: r) with
      | none => none
      | some (c, t) => match PyFlat.calls PyWrheap.shape r.length t with
        | none => none
        | some cs => some (c :: cs))
    rw [call_eq]
    cases e : PyWrheap.shape p with
    | none => rfl
    | some x =>
      obtain ⟨n, k⟩ := x
      dsimp only
      by_cases hn : r.length < n
      · rw [if_pos hn]
      · rw [if_neg hn]
        dsimp only
        have ht : (r.drop n).length ≤ r.length := by rw [List.length_drop]; omega
        rw [fuel_eq N (r.drop n) f (by omega) (by omega), fuel_eq N (r.drop n) r.length (by omega) (by omega)]
theorem calls_nil : PyWrheap.calls [] = some [] := rfl
theorem calls_eq (p : Int) (r : List Int) : PyWrheap.calls (p :: r) = match PyWrheap.shape p with
    | none => none
    | some (n, _) => if r.length < n then none else match PyWrheap.calls (r.drop n) with
      | none => none
      | some cs => some (PyWrheap.whole [p :: r.take n] :: cs) := by
  unfold PyWrheap.calls
  show (match (match PyFlat.call PyWrheap.shape (p :: r) with
      | none => none
      | some (c, t) => match PyFlat.calls PyWrheap.shape r.length t with
        | none => none
        | some cs => some (c :: cs)) with
    | none => none
    | some cs => some (cs.map PyWrheap.whole)) = _
  rw [call_eq]
  cases e : PyWrheap.shape p with
  | none => rfl
  | some x =>
    obtain ⟨n, k⟩ := x
    dsimp only
    by_cases hn : r.length < n
    · rw [if_pos hn, if_pos hn]
    · rw [if_neg hn, if_neg hn]
      dsimp only
      have ht : (r.drop n).length ≤ r.length := by rw [List.length_drop]; omega
      rw [fuel_eq r.length (r.drop n) r.length ht ht]
      cases PyFlat.calls PyWrheap.shape (r.drop n).length (r.drop n) with
      | none => rfl
      | some cs => rfl
/-- the rest of the calls may be asked -/
def Ok (l : List Int) : Prop := ∃ cs, PyWrheap.calls l = some cs ∧ cs.all HeapNeutral.asked1 = true
def cnt (l : List Int) : Nat := match PyWrheap.calls l with
  | none => 0
  | some cs => cs.length
/-- what is told from a state on -/
def out (s : Heap) (l : List Int) : List Int := match PyWrheap.calls l with
  | none => []
  | some cs => PyFlat.told (PyFlat.played HeapNeutral.step s cs)
theorem answers_out (l : List Int) : PyWrheap.answers l = out HeapNs.start l := rfl
theorem ok_of {l : List Int} (h : PyWrheap.answers_asked l = true) : Ok l ∧ cnt l ≤ 400 := by
  unfold PyWrheap.answers_asked at h
  cases e : PyWrheap.calls l with
  | none => rw [e] at h; cases h
  | some cs =>
    rw [e] at h
    dsimp only at h
    rw [Bool.and_eq_true] at h
    unfold HeapNeutral.asked at h
    rw [Bool.and_eq_true] at h
    refine ⟨⟨cs, e, h.2.1⟩, ?_⟩
    unfold cnt
    rw [e]
    exact of_decide_eq_true h.2.2
/-- the first call of a list, and the rest -/
inductive Cl : List Int → HeapNs.Call → List Int → Prop where
  | new (a b : Nat) (r : List Int) : Cl (0 :: (a : Int) :: (b : Int) :: r) (.new a b) r
  | get (a b c : Nat) (r : List Int) : Cl (1 :: (a : Int) :: (b : Int) :: (c : Int) :: r) (.get a b c) r
  | put (a b c : Nat) (r : List Int) : Cl (2 :: (a : Int) :: (b : Int) :: (c : Int) :: r) (.put a b c) r
  | num (a : Nat) (z : Int) (r : List Int) : Cl (3 :: (a : Int) :: z :: r) (.num a z) r
  | clear (a : Nat) (r : List Int) : Cl (4 :: (a : Int) :: r) (.clear a) r
  | copy (a b : Nat) (r : List Int) : Cl (5 :: (a : Int) :: (b : Int) :: r) (.copy a b) r
  | look (a : Nat) (r : List Int) : Cl (6 :: (a : Int) :: r) (.look a) r
  | slot (a b : Nat) (r : List Int) : Cl (7 :: (a : Int) :: (b : Int) :: r) (.slot a b) r
  | same (a b : Nat) (r : List Int) : Cl (8 :: (a : Int) :: (b : Int) :: r) (.same a b) r
  | tree (a : Nat) (r : List Int) : Cl (9 :: (a : Int) :: r) (.tree a) r
  | begin_ (r : List Int) : Cl (10 :: r) .begin_ r
  | work (n : Nat) (r : List Int) : Cl (11 :: (n : Int) :: r) (.work n) r
  | phase (r : List Int) : Cl (12 :: r) .phase r
  | count (r : List Int) : Cl (13 :: r) .count r
theorem nat_of {z : Int} (h : HeapNeutral.natural z 63 = true) : ∃ n : Nat, z = (n : Int) := by
  unfold HeapNeutral.natural at h
  rw [Bool.and_eq_true] at h
  exact ⟨z.toNat, (Int.toNat_of_nonneg (of_decide_eq_true h.1)).symm⟩
theorem two_of {r : List Int} (h : ¬ r.length < 2) : ∃ a b t, r = a :: b :: t := by
  match r, h with
  | [], h => exact absurd (by simp) h
  | [_], h => exact absurd (by simp) h
  | a :: b :: t, _ => exact ⟨a, b, t, rfl⟩
theorem one_of {r : List Int} (h : ¬ r.length < 1) : ∃ a t, r = a :: t := by
  match r, h with
  | [], h => exact absurd (by simp) h
  | a :: t, _ => exact ⟨a, t, rfl⟩
theorem three_of {r : List Int} (h : ¬ r.length < 3) : ∃ a b c t, r = a :: b :: c :: t := by
  match r, h with
  | [], h => exact absurd (by simp) h
  | [_], h => exact absurd (by simp) h
  | [_, _], h => exact absurd (by simp) h
  | a :: b :: c :: t, _ => exact ⟨a, b, c, t, rfl⟩
theorem decode {l : List Int} (h : Ok l) : l = [] ∨ ∃ c r, Cl l c r ∧ Ok r := by
  obtain ⟨cs, h1, h2⟩ := h
  cases l with
  | nil => exact .inl rfl
  | cons p r =>
    refine .inr ?_
    rw [calls_eq] at h1
    cases e : PyWrheap.shape p with
    | none => rw [e] at h1; cases h1
    | some x =>
      obtain ⟨n, k⟩ := x
      rw [e] at h1
      dsimp only at h1
      by_cases hn : r.length < n
      · rw [if_pos hn] at h1; cases h1
      · rw [if_neg hn] at h1
        cases e2 : PyWrheap.calls (r.drop n) with
        | none => rw [e2] at h1; cases h1
        | some ds =>
          rw [e2] at h1
          have h1 := Option.some.inj h1
          subst h1
          rw [List.all_cons, Bool.and_eq_true] at h2
          obtain ⟨h2, h3⟩ := h2
          have ok : Ok (r.drop n) := ⟨ds, e2, h3⟩
          cases shape_sh e with
          | s0 =>
            obtain ⟨a, b, t, rfl⟩ := two_of hn
            have h2 : (HeapNeutral.natural a 63 && HeapNeutral.natural b 63) = true := h2
            rw [Bool.and_eq_true] at h2
            obtain ⟨a', rfl⟩ := nat_of h2.1
            obtain ⟨b', rfl⟩ := nat_of h2.2
            exact ⟨_, _, .new a' b' t, ok⟩
          | s1 =>
            obtain ⟨a, b, c, t, rfl⟩ := three_of hn
            have h2 : (HeapNeutral.natural a 63 && (HeapNeutral.natural b 63 && HeapNeutral.natural c 63)) = true := h2
            rw [Bool.and_eq_true, Bool.and_eq_true] at h2
            obtain ⟨a', rfl⟩ := nat_of h2.1
            obtain ⟨b', rfl⟩ := nat_of h2.2.1
            obtain ⟨c', rfl⟩ := nat_of h2.2.2
            exact ⟨_, _, .get a' b' c' t, ok⟩
          | s2 =>
            obtain ⟨a, b, c, t, rfl⟩ := three_of hn
            have h2 : (HeapNeutral.natural a 63 && (HeapNeutral.natural b 63 && HeapNeutral.natural c 63)) = true := h2
            rw [Bool.and_eq_true, Bool.and_eq_true] at h2
            obtain ⟨a', rfl⟩ := nat_of h2.1
            obtain ⟨b', rfl⟩ := nat_of h2.2.1
            obtain ⟨c', rfl⟩ := nat_of h2.2.2
            exact ⟨_, _, .put a' b' c' t, ok⟩
          | s3 =>
            obtain ⟨a, b, t, rfl⟩ := two_of hn
            have h2 : (HeapNeutral.natural a 63 && HeapNeutral.signed b 63) = true := h2
            rw [Bool.and_eq_true] at h2
            obtain ⟨a', rfl⟩ := nat_of h2.1
            exact ⟨_, _, .num a' b t, ok⟩
          | s4 =>
            obtain ⟨a, t, rfl⟩ := one_of hn
            have h2 : HeapNeutral.natural a 63 = true := h2
            obtain ⟨a', rfl⟩ := nat_of h2
            exact ⟨_, _, .clear a' t, ok⟩
          | s5 =>
            obtain ⟨a, b, t, rfl⟩ := two_of hn
            have h2 : (HeapNeutral.natural a 63 && HeapNeutral.natural b 63) = true := h2
            rw [Bool.and_eq_true] at h2
            obtain ⟨a', rfl⟩ := nat_of h2.1
            obtain ⟨b', rfl⟩ := nat_of h2.2
            exact ⟨_, _, .copy a' b' t, ok⟩
          | s6 =>
            obtain ⟨a, t, rfl⟩ := one_of hn
            have h2 : HeapNeutral.natural a 63 = true := h2
            obtain ⟨a', rfl⟩ := nat_of h2
            exact ⟨_, _, .look a' t, ok⟩
          | s7 =>
            obtain ⟨a, b, t, rfl⟩ := two_of hn
            have h2 : (HeapNeutral.natural a 63 && HeapNeutral.natural b 63) = true := h2
            rw [Bool.and_eq_true] at h2
            obtain ⟨a', rfl⟩ := nat_of h2.1
            obtain ⟨b', rfl⟩ := nat_of h2.2
            exact ⟨_, _, .slot a' b' t, ok⟩
          | s8 =>
            obtain ⟨a, b, t, rfl⟩ := two_of hn
            have h2 : (HeapNeutral.natural a 63 && HeapNeutral.natural b 63) = true := h2
            rw [Bool.and_eq_true] at h2
            obtain ⟨a', rfl⟩ := nat_of h2.1
            obtain ⟨b', rfl⟩ := nat_of h2.2
            exact ⟨_, _, .same a' b' t, ok⟩
          | s9 =>
            obtain ⟨a, t, rfl⟩ := one_of hn
            have h2 : HeapNeutral.natural a 63 = true := h2
            obtain ⟨a', rfl⟩ := nat_of h2
            exact ⟨_, _, .tree a' t, ok⟩
          | s10 =>
            exact ⟨_, _, .begin_ _, ok⟩
          | s11 =>
            obtain ⟨a, t, rfl⟩ := one_of hn
            have h2 : HeapNeutral.natural a 63 = true := h2
            obtain ⟨a', rfl⟩ := nat_of h2
            exact ⟨_, _, .work a' t, ok⟩
          | s12 =>
            exact ⟨_, _, .phase _, ok⟩
          | s13 =>
            exact ⟨_, _, .count _, ok⟩
theorem whole_nat (l : List Nat) : HeapNeutral.whole (l.map fun (n : Nat) => (n : Int)) = true := by
  unfold HeapNeutral.whole
  rw [List.all_eq_true]
  intro x m
  obtain ⟨n, _, rfl⟩ := List.mem_map.mp m
  exact decide_eq_true (Int.natCast_nonneg n)
/-- the numbers of one call, as the specification's step takes them -/
theorem out_step {s : Heap} {l r : List Int} {row : List (List Int)} {c : HeapNs.Call} {cs : List (List (List Int))} (h : PyWrheap.calls l = some (row :: cs)) (hr : PyWrheap.calls r = some cs) (hc : HeapNeutral.callOf row = some c) :
    out s l = ((HeapNeutral.shown (step s c).2).length : Int) :: HeapNeutral.shown (step s c).2 ++ out (step s c).1 r ∧ cnt l = cnt r + 1 := by
  have e : HeapNeutral.step s row = ((step s c).1, HeapNeutral.shown (step s c).2) := by
    unfold HeapNeutral.step
    rw [hc]
  unfold out cnt
  rw [h, hr]
  refine ⟨?_, rfl⟩
  show PyFlat.told ((HeapNeutral.step s row).2 :: PyFlat.played HeapNeutral.step (HeapNeutral.step s row).1 cs) = _
  rw [e]
  unfold PyFlat.told
  rw [List.flatMap_cons]
theorem hco {c : Bool} {x : HeapNs.Call} (h : c = true) : (if c = true then some x else none) = some x := if_pos h
theorem cl_out {l r : List Int} {c : HeapNs.Call} (h : Cl l c r) (ok : Ok r) (s : Heap) :
    out s l = ((HeapNeutral.shown (step s c).2).length : Int) :: HeapNeutral.shown (step s c).2 ++ out (step s c).1 r ∧ cnt l = cnt r + 1 := by
  obtain ⟨cs, hr, _⟩ := ok
  have key : ∀ (p : Int) (t : List Int) (n : Nat), PyWrheap.shape p = some (n, 0) → ¬ t.length < n → PyWrheap.calls (t.drop n) = some cs → PyWrheap.calls (p :: t) = some (PyWrheap.whole [p :: t.take n] :: cs) := fun p t n h1 h2 h3 => by
    rw [calls_eq, h1]
    dsimp only
    rw [if_neg h2, h3]
  have b0 : ∀ (a : Nat), decide (0 ≤ (a : Int)) = true := fun a => decide_eq_true (Int.natCast_nonneg a)
  have w1 : ∀ (a : Nat), HeapNeutral.whole [(a : Int)] = true := fun a => whole_nat [a]
  have w2 : ∀ (a b : Nat), HeapNeutral.whole [(a : Int), (b : Int)] = true := fun a b => whole_nat [a, b]
  have w3 : ∀ (a b c : Nat), HeapNeutral.whole [(a : Int), (b : Int), (c : Int)] = true := fun a b c => whole_nat [a, b, c]
  cases h with
  | new a b => exact out_step (key 0 _ 2 rfl (by simp) hr) hr (hco (w2 a b))
  | get a b c => exact out_step (key 1 _ 3 rfl (by simp) hr) hr (hco (w3 a b c))
  | put a b c => exact out_step (key 2 _ 3 rfl (by simp) hr) hr (hco (w3 a b c))
  | num a z => exact out_step (key 3 _ 2 rfl (by simp) hr) hr (hco (w1 a))
  | clear a => exact out_step (key 4 _ 1 rfl (by simp) hr) hr (hco (w1 a))
  | copy a b => exact out_step (key 5 _ 2 rfl (by simp) hr) hr (hco (w2 a b))
  | look a => exact out_step (key 6 _ 1 rfl (by simp) hr) hr (hco (w1 a))
  | slot a b => exact out_step (key 7 _ 2 rfl (by simp) hr) hr (hco (w2 a b))
  | same a b => exact out_step (key 8 _ 2 rfl (by simp) hr) hr (hco (w2 a b))
  | tree a => exact out_step (key 9 _ 1 rfl (by simp) hr) hr (hco (w1 a))
  | begin_ => exact out_step (key 10 _ 0 rfl (by simp) hr) hr rfl
  | work a => exact out_step (key 11 _ 1 rfl (by simp) hr) hr (hco (w1 a))
  | phase => exact out_step (key 12 _ 0 rfl (by simp) hr) hr rfl
  | count => exact out_step (key 13 _ 0 rfl (by simp) hr) hr rfl
theorem out_nil (s : Heap) : out s [] = [] := rfl

/-! ### what is come to, met by met -/
/-- a value met: its object is put behind those met before, if it is none of them -/
def addOne (l : List (Option Obj)) (met : List Nat) (v : Val) : List Nat := match v with
  | .obj c => if met.contains c = true then met else match l.getD c none with
    | some _ => met ++ [c]
    | none => met
  | _ => met
def addAll (l : List (Option Obj)) (met : List Nat) (vs : List Val) : List Nat := vs.foldl (addOne l) met
def slotsOf (l : List (Option Obj)) (c : Nat) : List Val := match l.getD c none with
  | some o => o.slots
  | none => []
theorem addAll_nil (l : List (Option Obj)) (met : List Nat) : addAll l met [] = met := rfl
theorem addAll_cons (l : List (Option Obj)) (met : List Nat) (v : Val) (vs : List Val) : addAll l met (v :: vs) = addAll l (addOne l met v) vs := rfl
theorem addAll_append (l : List (Option Obj)) (met : List Nat) (vs ws : List Val) : addAll l met (vs ++ ws) = addAll l (addAll l met vs) ws := List.foldl_append
theorem addOne_pre (l : List (Option Obj)) (met : List Nat) (v : Val) : ∃ t, addOne l met v = met ++ t := by
  unfold addOne
  split
  · split
    · exact ⟨[], (List.append_nil _).symm⟩
    · split
      · exact ⟨_, rfl⟩
      · exact ⟨[], (List.append_nil _).symm⟩
  · exact ⟨[], (List.append_nil _).symm⟩
theorem addAll_pre (l : List (Option Obj)) : ∀ (vs : List Val) (met : List Nat), ∃ t, addAll l met vs = met ++ t
  | [], met => ⟨[], (List.append_nil _).symm⟩
  | v :: vs, met => by
    obtain ⟨t, e⟩ := addOne_pre l met v
    obtain ⟨u, e2⟩ := addAll_pre l vs (addOne l met v)
    exact ⟨t ++ u, by rw [addAll_cons, e2, e, List.append_assoc]⟩
/-- no two alike, each in a filled cell -/
def Met (l : List (Option Obj)) (met : List Nat) : Prop := met.Nodup ∧ ∀ c ∈ met, ∃ o, l[c]? = some (some o)
theorem getD_some {l : List (Option Obj)} {c : Nat} {o : Obj} (h : l.getD c none = some o) : l[c]? = some (some o) := by
  rw [List.getD_eq_getElem?_getD] at h
  cases e : l[c]? with
  | none => rw [e] at h; cases h
  | some x => rw [e] at h; exact congrArg some h
theorem getD_of {l : List (Option Obj)} {c : Nat} {o : Option Obj} (h : l[c]? = some o) : l.getD c none = o := by
  rw [List.getD_eq_getElem?_getD, h]
  rfl
theorem nodup_snoc {met : List Nat} {c : Nat} (h : met.Nodup) (hc : ¬ c ∈ met) : (met ++ [c]).Nodup := by
  rw [List.nodup_append]
  refine ⟨h, by simp, fun a ha b hb => ?_⟩
  rw [List.mem_singleton] at hb
  subst hb
  exact fun e => hc (e ▸ ha)
theorem Met.one {l : List (Option Obj)} {met : List Nat} (h : Met l met) (v : Val) : Met l (addOne l met v) := by
  unfold addOne
  split
  · next c =>
    split
    · exact h
    · next hc =>
      split
      · next o e =>
        refine ⟨nodup_snoc h.1 fun m => hc (List.contains_iff_mem.mpr m), fun d m => ?_⟩
        rcases List.mem_append.mp m with m | m
        · exact h.2 d m
        · rw [List.mem_singleton] at m
          subst m
          exact ⟨o, getD_some e⟩
      · exact h
  · exact h
theorem Met.all {l : List (Option Obj)} : ∀ (vs : List Val) {met : List Nat}, Met l met → Met l (addAll l met vs)
  | [], _, h => h
  | v :: vs, _, h => Met.all vs (h.one v)
theorem Met.nil (l : List (Option Obj)) : Met l [] := ⟨List.nodup_nil, fun _ m => nomatch m⟩
theorem nodup_le : ∀ (n : Nat) (l : List Nat), l.Nodup → (∀ c ∈ l, c < n) → l.length ≤ n
  | 0, [], _, _ => Nat.le_refl 0
  | 0, a :: l, _, h => absurd (h a (List.mem_cons_self ..)) (Nat.not_lt_zero a)
  | n + 1, l, h1, h2 => by
    have q := nodup_le n (l.erase n) (h1.erase n) fun c m => by
      have m2 := List.mem_of_mem_erase m
      have := h2 c m2
      have hne : c ≠ n := fun e => by
        subst e
        exact (List.Nodup.not_mem_erase h1) m
      omega
    by_cases hm : n ∈ l
    · rw [List.length_erase_of_mem hm] at q
      omega
    · rw [List.erase_of_not_mem hm] at q
      omega
theorem Met.le {l : List (Option Obj)} {met : List Nat} (h : Met l met) (hl : l.length = 64) : met.length ≤ 64 :=
  nodup_le 64 met h.1 fun c m => by
    obtain ⟨o, e⟩ := h.2 c m
    have := (List.getElem?_eq_some_iff.mp e).1
    omega
/-- the walk stands at (had, queue): as far as the list met, of which had.length objects are gone through -/
structure Walk (l : List (Option Obj)) (goal : List Nat) (met : List Nat) (i : Nat) : Prop where
  ex : ∃ (f : Nat) (queue : List Val), goal = reach l f (met.take i) queue ∧ addAll l (met.take i) queue = met ∧ queue.length + 8 * (64 - i) ≤ f
  le : i ≤ met.length
  ok : Met l met
theorem reach_nil (l : List (Option Obj)) (f : Nat) (had : List Nat) : reach l f had [] = had := by cases f <;> rfl
theorem reach_had {l : List (Option Obj)} : ∀ (queue : List Val) (f : Nat) (had : List Nat), addAll l had queue = had → queue.length ≤ f → reach l f had queue = had
  | [], f, had, _, _ => reach_nil l f had
  | v :: q, 0, had, _, h => absurd h (by simp)
  | v :: q, f + 1, had, h, hf => by
    have hf : q.length ≤ f := by simpa using hf
    have e1 : addOne l had v = had := by
      obtain ⟨t, e⟩ := addOne_pre l had v
      obtain ⟨u, e2⟩ := addAll_pre l q (addOne l had v)
      rw [addAll_cons, e2, e, List.append_assoc] at h
      have : t ++ u = [] := List.append_right_eq_self.mp h
      rw [List.append_eq_nil_iff] at this
      rw [e, this.1, List.append_nil]
    rw [addAll_cons, e1] at h
    have ih := reach_had q f had h hf
    cases v with
    | none_ => exact ih
    | num z => exact ih
    | obj c =>
      unfold reach
      unfold addOne at e1
      dsimp only at e1 ⊢
      by_cases hc : had.contains c = true
      · rw [if_pos hc]; exact ih
      · rw [if_neg hc] at e1 ⊢
        cases q : l.getD c none with
        | none => exact ih
        | some o =>
          rw [q] at e1
          exact absurd e1 (by simp)
theorem Walk.done {l : List (Option Obj)} {goal met : List Nat} (w : Walk l goal met met.length) : goal = met := by
  obtain ⟨f, q, h1, h2, h3⟩ := w.ex
  rw [List.take_length] at h1 h2
  rw [h1]
  exact reach_had q f met h2 (by omega)
theorem reach_next {l : List (Option Obj)} {met : List Nat} (hs : ∀ (c : Nat) (o : Obj), l[c]? = some (some o) → o.slots.length ≤ 8) : ∀ (queue : List Val) (f : Nat) (had : List Nat), addAll l had queue = met → had.length < met.length → had.length < 64 → queue.length + 8 * (64 - had.length) ≤ f →
    ∃ (c f' : Nat) (queue' : List Val), met[had.length]? = some c ∧ reach l f had queue = reach l f' (had ++ [c]) queue' ∧ addAll l (had ++ [c]) queue' = addAll l met (slotsOf l c) ∧ queue'.length + 8 * (64 - (had.length + 1)) ≤ f'
  | [], f, had, h, h2, _, _ => by
    rw [addAll_nil] at h
    subst h
    exact absurd h2 (Nat.lt_irrefl _)
  | v :: q, 0, had, _, _, _, hf => absurd hf (by simp)
  | v :: q, f + 1, had, h, h2, h64, hf => by
    have hf : q.length + 1 + 8 * (64 - had.length) ≤ f + 1 := by simpa using hf
    rw [addAll_cons] at h
    have skip : addOne l had v = had → reach l (f + 1) had (v :: q) = reach l f had q → ∃ (c f' : Nat) (queue' : List Val), met[had.length]? = some c ∧ reach l (f + 1) had (v :: q) = reach l f' (had ++ [c]) queue' ∧ addAll l (had ++ [c]) queue' = addAll l met (slotsOf l c) ∧ queue'.length + 8 * (64 - (had.length + 1)) ≤ f' := fun e1 e2 => by
      rw [e1] at h
      rw [e2]
      exact reach_next hs q f had h h2 h64 (by omega)
    cases v with
    | none_ => exact skip rfl rfl
    | num z => exact skip rfl rfl
    | obj c =>
      by_cases hc : had.contains c = true
      · refine skip ?_ ?_
        · unfold addOne; dsimp only; rw [if_pos hc]
        · conv => lhs; unfold reach
          dsimp only; rw [if_pos hc]
      · cases e : l.getD c none with
        | none =>
          refine skip ?_ ?_
          · unfold addOne; dsimp only; rw [if_neg hc, e]
          · conv => lhs; unfold reach
            dsimp only; rw [if_neg hc, e]
        | some o =>
          have e1 : addOne l had (.obj c) = had ++ [c] := by unfold addOne; dsimp only; rw [if_neg hc, e]
          rw [e1] at h
          obtain ⟨t, et⟩ := addAll_pre l q (had ++ [c])
          refine ⟨c, f, q ++ o.slots, ?_, ?_, ?_, ?_⟩
          · rw [← h, et, List.append_assoc, List.getElem?_append_right (Nat.le_refl _), Nat.sub_self]
            rfl
          · conv => lhs; unfold reach
            dsimp only; rw [if_neg hc, e]
          · rw [addAll_append, h]
            unfold slotsOf
            rw [e]
          · have := hs c o (getD_some e)
            rw [List.length_append]
            omega
theorem Walk.next {l : List (Option Obj)} {goal met : List Nat} {i c : Nat} (w : Walk l goal met i) (hl : l.length = 64) (hs : ∀ (c : Nat) (o : Obj), l[c]? = some (some o) → o.slots.length ≤ 8) (hc : met[i]? = some c) : Walk l goal (addAll l met (slotsOf l c)) (i + 1) := by
  obtain ⟨f, q, h1, h2, h3⟩ := w.ex
  have hi : i < met.length := (List.getElem?_eq_some_iff.mp hc).1
  have ti : (met.take i).length = i := by rw [List.length_take]; omega
  have m64 := w.ok.le hl
  obtain ⟨c', f', q', g1, g2, g3, g4⟩ := reach_next hs q f (met.take i) h2 (by omega) (by omega) (by omega)
  rw [ti] at g1 g4
  rw [hc] at g1
  have ec := Option.some.inj g1
  subst ec
  have tk : met.take i ++ [c] = met.take (i + 1) := by
    rw [List.take_succ, hc]
    rfl
  obtain ⟨t, et⟩ := addAll_pre l (slotsOf l c) met
  have tk2 : (addAll l met (slotsOf l c)).take (i + 1) = met.take i ++ [c] := by
    rw [et, List.take_append_of_le_length (by omega), tk]
  refine ⟨⟨f', q', ?_, ?_, g4⟩, ?_, w.ok.all _⟩
  · rw [tk2, ← g2]
    exact h1
  · rw [tk2]
    exact g3
  · rw [et, List.length_append]
    omega
theorem Walk.start {s : Heap} {vs : List Val} (hv : vs.length ≤ 8) : Walk s.cells (s.from_ vs) (addAll s.cells [] vs) 0 :=
  ⟨⟨1024, vs, by rw [List.take_zero]; rfl, by rw [List.take_zero], by omega⟩, Nat.zero_le _, (Met.nil _).all _⟩
/-- what is come to: no two alike, each in a filled cell -/
theorem reach_met {l : List (Option Obj)} : ∀ (f : Nat) (had : List Nat) (vs : List Val), Met l had → Met l (reach l f had vs)
  | 0, had, vs, h => h
  | f + 1, had, [], h => h
  | f + 1, had, v :: r, h => by
    cases v with
    | none_ => exact reach_met f had r h
    | num z => exact reach_met f had r h
    | obj c =>
      unfold reach
      dsimp only
      split
      · exact reach_met f had r h
      · next hc =>
        split
        · next o e =>
          refine reach_met f _ _ ?_
          have q := h.one (.obj c)
          unfold addOne at q
          dsimp only at q
          rw [if_neg hc, e] at q
          exact q
        · exact reach_met f had r h
theorem from_le {s : Heap} (g : Good s) (vs : List Val) : (s.from_ vs).length ≤ 64 := (reach_met _ _ _ (Met.nil _)).le g.len
end Sw

end
section
/-! How long an answer is; the numbers of a call. -/
namespace Sw
open HeapNs
theorem flatMap_le {α β : Type} {f : α → List β} {n : Nat} : ∀ (l : List α), (∀ x ∈ l, (f x).length ≤ n) → (l.flatMap f).length ≤ n * l.length
  | [], _ => Nat.zero_le _
  | x :: l, h => by
    have h1 := h x (List.mem_cons_self ..)
    have h2 := flatMap_le l fun y m => h y (List.mem_cons_of_mem _ m)
    rw [List.flatMap_cons, List.length_append, List.length_cons, Nat.mul_add]
    omega
theorem valNums_len (l : List Nat) (v : Val) : (valNums l v).length = 2 := by
  cases v <;> rfl
theorem treeNums_len {s : Heap} (g : Good s) (v : Val) : (treeNums s v).length ≤ 1088 := by
  unfold treeNums
  dsimp only
  have h64 := from_le g [v]
  have h := flatMap_le (n := 17) (f := fun (c : Nat) => match s.cell c with
    | some o => ((o.slots.length : Nat) : Int) :: o.slots.flatMap (valNums (s.from_ [v]))
    | none => []) (s.from_ [v]) fun c _ => by
      split
      · next o e =>
        have h8 := (g.sl c o (cell_some e)).2
        have h2 := flatMap_le (n := 2) (f := valNums (s.from_ [v])) o.slots fun x _ => Nat.le_of_eq (valNums_len _ x)
        rw [List.length_cons]
        omega
      · exact Nat.zero_le _
  refine Nat.le_trans h ?_
  omega
theorem says_len (z : Int) : (HeapNeutral.shown (says z)).length = 1 := rfl
theorem valAnswer_len (s : Heap) (v : Val) : (HeapNeutral.shown (valAnswer s v)).length ≤ 3 := by
  cases v with
  | none_ => exact (by decide : 1 ≤ 3)
  | num z => exact Nat.le_refl 3
  | obj c => exact Nat.le_refl 3
theorem shown_len {s : Heap} (g : Good s) (c : HeapNs.Call) : (HeapNeutral.shown (step s c).2).length ≤ 1199 := by
  cases c with
  | new r n =>
    unfold step; dsimp only
    split
    · exact (by decide : 1 ≤ 1199)
    · split <;> exact (by decide : 1 ≤ 1199)
  | get d r k =>
    unfold step; dsimp only
    split
    · exact (by decide : 1 ≤ 1199)
    · split
      · exact (by decide : 1 ≤ 1199)
      · split <;> exact (by decide : 1 ≤ 1199)
  | put r k d =>
    unfold step; dsimp only
    split
    · exact (by decide : 1 ≤ 1199)
    · split
      · exact (by decide : 1 ≤ 1199)
      · split <;> exact (by decide : 1 ≤ 1199)
  | num r z => unfold step; dsimp only; split <;> exact (by decide : 1 ≤ 1199)
  | clear r => unfold step; dsimp only; split <;> exact (by decide : 1 ≤ 1199)
  | copy r d => unfold step; dsimp only; split <;> exact (by decide : 1 ≤ 1199)
  | look r =>
    unfold step; dsimp only
    split
    · exact (by decide : 1 ≤ 1199)
    · exact Nat.le_trans (valAnswer_len s _) (by decide)
  | slot r k =>
    unfold step; dsimp only
    split
    · exact (by decide : 1 ≤ 1199)
    · split
      · exact (by decide : 1 ≤ 1199)
      · split
        · exact (by decide : 1 ≤ 1199)
        · exact Nat.le_trans (valAnswer_len s _) (by decide)
  | same r d =>
    unfold step; dsimp only
    split
    · exact (by decide : 1 ≤ 1199)
    · split <;> exact (by decide : 1 ≤ 1199)
  | tree r =>
    unfold step; dsimp only
    split
    · exact (by decide : 1 ≤ 1199)
    · have h := treeNums_len g (s.reg r)
      show ((_ : Int) :: ([treeNums s (s.reg r)].flatMap fun (l : List Int) => (l.length : Int) :: l)).length ≤ 1199
      rw [List.length_cons, List.flatMap_cons, List.flatMap_nil, List.append_nil, List.length_cons]
      omega
  | begin_ => unfold step; dsimp only; split <;> exact (by decide : 1 ≤ 1199)
  | work n => unfold step; dsimp only; split <;> exact (by decide : 1 ≤ 1199)
  | phase => exact (by decide : 1 ≤ 1199)
  | count => exact (by decide : 3 ≤ 1199)
/-- how many numbers stand behind a call's own -/
def cts : List Nat := [2, 3, 3, 2, 1, 2, 1, 2, 2, 1, 0, 1, 0, 0]
theorem cl_parts {l r : List Int} {c : HeapNs.Call} (h : Cl l c r) : ∃ (p : Nat) (gs : List Int), l = (p : Int) :: (gs ++ r) ∧ Cl ((p : Int) :: gs) c [] ∧ cts[p]? = some gs.length := by
  cases h with
  | new a b => exact ⟨0, [a, b], rfl, .new a b [], rfl⟩
  | get a b c => exact ⟨1, [a, b, c], rfl, .get a b c [], rfl⟩
  | put a b c => exact ⟨2, [a, b, c], rfl, .put a b c [], rfl⟩
  | num a z => exact ⟨3, [a, z], rfl, .num a z [], rfl⟩
  | clear a => exact ⟨4, [a], rfl, .clear a [], rfl⟩
  | copy a b => exact ⟨5, [a, b], rfl, .copy a b [], rfl⟩
  | look a => exact ⟨6, [a], rfl, .look a [], rfl⟩
  | slot a b => exact ⟨7, [a, b], rfl, .slot a b [], rfl⟩
  | same a b => exact ⟨8, [a, b], rfl, .same a b [], rfl⟩
  | tree a => exact ⟨9, [a], rfl, .tree a [], rfl⟩
  | begin_ => exact ⟨10, [], rfl, .begin_ [], rfl⟩
  | work a => exact ⟨11, [a], rfl, .work a [], rfl⟩
  | phase => exact ⟨12, [], rfl, .phase [], rfl⟩
  | count => exact ⟨13, [], rfl, .count [], rfl⟩
end Sw

end
section
/-! How the program's objects stand for the specification's state. -/
set_option Elab.async false
set_option linter.all false
set_option maxRecDepth 100000
set_option maxHeartbeats 2000000
namespace Sw
open PySem PySem.Spec PyProof.Rows L2
open HeapNs (Val)
abbrev OB := HeapNs.Obj
abbrev HS := HeapNs.Heap

def valV (oa : Nat → Addr) : Val → V
  | .none_ => .non
  | .num z => .int z
  | .obj c => .ref (oa c)
def cellV (oa : Nat → Addr) (c : Nat) : Option OB → V
  | some _ => .ref (oa c)
  | none => .non
/-- an object's attributes; the heap's: THE PROGRAM'S OWN -/
def obF (col c : Nat) (l : Addr) : List (Str × V) := [("slots", .ref l), ("cell", .int c), ("colour", .int col)]
def hpF (ph nx : Nat) (lc lr : Addr) : List (Str × V) := [("cells", .ref lc), ("registers", .ref lr), ("phase", .int ph), ("next_cell", .int nx)]
theorem obF_slots (k c : Nat) (l : Addr) : (obF k c l).lookup ("slots" : Str) = some (.ref l) := rfl
theorem obF_cell (k c : Nat) (l : Addr) : (obF k c l).lookup ("cell" : Str) = some (.int c) := rfl
theorem obF_colour (k c : Nat) (l : Addr) : (obF k c l).lookup ("colour" : Str) = some (.int k) := rfl
theorem hpF_regs (p a : Nat) (lc lr : Addr) : (hpF p a lc lr).lookup ("registers" : Str) = some (.ref lr) := rfl
theorem hpF_cells (p a : Nat) (lc lr : Addr) : (hpF p a lc lr).lookup ("cells" : Str) = some (.ref lc) := rfl
theorem hpF_phase (p a : Nat) (lc lr : Addr) : (hpF p a lc lr).lookup ("phase" : Str) = some (.int p) := rfl
theorem hpF_next (p a : Nat) (lc lr : Addr) : (hpF p a lc lr).lookup ("next_cell" : Str) = some (.int a) := rfl
theorem put_colour (k k' c : Nat) (l : Addr) : putF "colour" (.int k') (obF k c l) = obF k' c l := rfl
theorem put_phase (p p' a : Nat) (lc lr : Addr) : putF "phase" (.int p') (hpF p a lc lr) = hpF p' a lc lr := rfl
theorem put_next (p a a' : Nat) (lc lr : Addr) : putF "next_cell" (.int a') (hpF p a lc lr) = hpF p a' lc lr := rfl
/-- the addresses -/
structure Nm where
  hp : Addr
  lc : Addr
  lr : Addr
  oa : Nat → Addr
  sa : Nat → Addr
structure Rep (CO CH : Addr) (N : Nm) (s : HS) (H : Hp) : Prop where
  hp : ∃ dH nx, H N.hp = some (.ins CH dH (hpF s.phase nx N.lc N.lr)) ∧ (s.phase = 2 → nx = s.at_)
  lc : ∃ xs, H N.lc = some (.lst xs) ∧ xs.length = 64 ∧ ∀ (c : Nat) (x : Option OB), s.cells[c]? = some x → xs[c]? = some (cellV N.oa c x)
  lr : H N.lr = some (.lst (s.regs.map (valV N.oa)))
  ob : ∀ (c : Nat) (o : OB), At s c o → ∃ dx vs, H (N.oa c) = some (.ins CO dx (obF o.colour c (N.sa c))) ∧ H (N.sa c) = some (.lst vs) ∧ (Kept s c o → vs = o.slots.map (valV N.oa))
  inj : ∀ (c c' : Nat) (o o' : OB), At s c o → At s c' o' → N.sa c = N.sa c' → c = c'
  nc : ∀ (c : Nat) (o : OB), At s c o → N.sa c ≠ N.lc ∧ N.sa c ≠ N.lr
  ncr : N.lc ≠ N.lr
/-- the addresses that the state takes up -/
def Foot (N : Nm) (s : HS) (b : Addr) : Prop := b = N.hp ∨ b = N.lc ∨ b = N.lr ∨ ∃ c o, At s c o ∧ (b = N.sa c ∨ b = N.oa c)
def Keeps (N : Nm) (s : HS) (H : Hp) (N' : Nm) (s' : HS) (H' : Hp) : Prop := ∀ b o, H b = some o → ¬ Foot N s b → H' b = some o ∧ ¬ Foot N' s' b
theorem Keeps.refl (N : Nm) (s : HS) (H : Hp) : Keeps N s H N s H := fun _ _ h f => ⟨h, f⟩
theorem Keeps.trans {N N' N'' : Nm} {s s' s'' : HS} {H H' H'' : Hp} (a : Keeps N s H N' s' H') (b : Keeps N' s' H' N'' s'' H'') : Keeps N s H N'' s'' H'' := fun x o h f =>
  let ⟨h1, f1⟩ := a x o h f
  b x o h1 f1
theorem Keeps.same {N N' : Nm} {s s' : HS} {H H' H'' : Hp} (a : Keeps N s H N' s' H') (b : Same H' H'') : Keeps N s H N' s' H'' := fun x o h f =>
  let ⟨h1, f1⟩ := a x o h f
  ⟨b x o h1, f1⟩
section
variable {CO CH : Addr} {N : Nm} {s : HS} {H H' : Hp}
theorem Rep.same (R : Rep CO CH N s H) (e : Same H H') : Rep CO CH N s H' := by
  obtain ⟨⟨dH, nx, h1, h1n⟩, ⟨xs, h2, h3, h4⟩, h5, h6, h7, h8, h9⟩ := R
  refine ⟨⟨dH, nx, e _ _ h1, h1n⟩, ⟨xs, e _ _ h2, h3, h4⟩, e _ _ h5, fun c o h => ?_, h7, h8, h9⟩
  obtain ⟨dx, vs, g1, g2, g3⟩ := h6 c o h
  exact ⟨dx, vs, e _ _ g1, e _ _ g2, g3⟩
/-- all that is taken up is there -/
theorem Rep.foot (R : Rep CO CH N s H) {b : Addr} (f : Foot N s b) : ∃ o, H b = some o := by
  rcases f with rfl | rfl | rfl | ⟨c, o, h, rfl | rfl⟩
  · obtain ⟨_, _, h, _⟩ := R.hp; exact ⟨_, h⟩
  · obtain ⟨_, h, _⟩ := R.lc; exact ⟨_, h⟩
  · exact ⟨_, R.lr⟩
  · obtain ⟨_, _, _, h, _⟩ := R.ob c o h; exact ⟨_, h⟩
  · obtain ⟨_, _, h, _⟩ := R.ob c o h; exact ⟨_, h⟩
theorem Rep.fresh (R : Rep CO CH N s H) {b : Addr} (h : H b = none) : ¬ Foot N s b := fun f => by
  obtain ⟨o, e⟩ := R.foot f
  rw [h] at e
  cases e
theorem Rep.oinj (R : Rep CO CH N s H) {c c' : Nat} {o o' : OB} (h : At s c o) (h' : At s c' o') (e : N.oa c = N.oa c') : c = c' := by
  obtain ⟨dx, vs, h1, _⟩ := R.ob c o h
  obtain ⟨dx', vs', h1', _⟩ := R.ob c' o' h'
  rw [e, h1'] at h1
  have q := Option.some.inj h1
  injection q with _ _ q
  have q2 := congrArg (fun l => List.lookup ("slots" : Str) l) q
  rw [obF_slots, obF_slots] at q2
  have q3 := Option.some.inj q2
  injection q3 with q3
  exact (R.inj c' c o' o h' h q3).symm
/-- a register's value changed -/
theorem Rep.reg (R : Rep CO CH N s H) (r : Nat) (v : Val) : Rep CO CH N (s.withReg r v) (upd H N.lr (.lst ((s.regs.map (valV N.oa)).set r (valV N.oa v)))) := by
  obtain ⟨⟨dH, nx, h1, h1n⟩, ⟨xs, h2, h3, h4⟩, h5, h6, h7, h8, h9⟩ := R
  refine ⟨⟨dH, nx, ?_, h1n⟩, ⟨xs, ?_, h3, h4⟩, ?_, fun c o h => ?_, h7, h8, h9⟩
  · rw [upd_ne (ne_of h1 h5 (by intro z; cases z))]; exact h1
  · rw [upd_ne h9]; exact h2
  · rw [upd_same]
    show _ = some (HO.lst ((s.regs.set r v).map (valV N.oa)))
    rw [List.map_set]
  · obtain ⟨dx, vs, g1, g2, g3⟩ := h6 c o h
    exact ⟨dx, vs, by rw [upd_ne (ne_of g1 h5 (by intro z; cases z))]; exact g1, by rw [upd_ne (h8 c o h).2]; exact g2, g3⟩
theorem Rep.reg_keeps (R : Rep CO CH N s H) (r : Nat) (v : Val) (o : HO) : Keeps N s H N (s.withReg r v) (upd H N.lr o) := fun b u h f =>
  ⟨by rw [upd_ne (fun e => f (.inr (.inr (.inl e))))]; exact h, f⟩
/-- a slot of an object changed -/
theorem Rep.put (R : Rep CO CH N s H) {c : Nat} {o : OB} (hc : At s c o) (hk : Kept s c o) (k : Nat) (v : Val) :
    Rep CO CH N (s.withCells (s.cells.set c (some ⟨o.colour, o.slots.set k v⟩))) (upd H (N.sa c) (.lst ((o.slots.map (valV N.oa)).set k (valV N.oa v)))) := by
  have bwd : ∀ d p, At (s.withCells (s.cells.set c (some ⟨o.colour, o.slots.set k v⟩))) d p → (d = c ∧ p = ⟨o.colour, o.slots.set k v⟩) ∨ (d ≠ c ∧ At s d p) := fun d p h => by
    have h : (s.cells.set c (some ⟨o.colour, o.slots.set k v⟩))[d]? = some (some p) := h
    by_cases hd : d = c
    · subst hd
      rw [List.getElem?_set_self hc.lt] at h
      exact .inl ⟨rfl, (Option.some.inj (Option.some.inj h)).symm⟩
    · rw [List.getElem?_set_ne fun q => hd q.symm] at h
      exact .inr ⟨hd, h⟩
  have has : ∀ d p, At (s.withCells (s.cells.set c (some ⟨o.colour, o.slots.set k v⟩))) d p → ∃ p', At s d p' := fun d p h => by
    rcases bwd d p h with ⟨rfl, _⟩ | ⟨_, h⟩
    · exact ⟨o, hc⟩
    · exact ⟨p, h⟩
  obtain ⟨⟨dH, nx, h1, h1n⟩, ⟨xs, h2, h3, h4⟩, h5, h6, h7, h8, h9⟩ := R
  obtain ⟨dc, vc, q1, q2, q3⟩ := h6 c o hc
  refine ⟨⟨dH, nx, ?_, h1n⟩, ⟨xs, ?_, h3, fun d x e => ?_⟩, ?_, fun d p h => ?_, fun d d' p p' h h' e => ?_, fun d p h => ?_, h9⟩
  · rw [upd_ne (ne_of h1 q2 (by intro z; cases z))]; exact h1
  · rw [upd_ne fun e => (h8 c o hc).1 e.symm]; exact h2
  · have e : (s.cells.set c (some ⟨o.colour, o.slots.set k v⟩))[d]? = some x := e
    by_cases hd : d = c
    · subst hd
      rw [List.getElem?_set_self hc.lt] at e
      have e := Option.some.inj e
      subst e
      exact h4 d (some o) hc
    · rw [List.getElem?_set_ne fun q => hd q.symm] at e
      exact h4 d x e
  · rw [upd_ne fun e => (h8 c o hc).2 e.symm]; exact h5
  · rcases bwd d p h with ⟨rfl, rfl⟩ | ⟨hd, h⟩
    · refine ⟨dc, _, ?_, upd_same, fun _ => ?_⟩
      · rw [upd_ne (ne_of q1 q2 (by intro z; cases z))]; exact q1
      · rw [List.map_set]
    · obtain ⟨dx, vs, g1, g2, g3⟩ := h6 d p h
      exact ⟨dx, vs, by rw [upd_ne (ne_of g1 q2 (by intro z; cases z))]; exact g1, by rw [upd_ne (fun e => hd (h7 d c p o h hc e))]; exact g2, g3⟩
  · obtain ⟨o1, a1⟩ := has d p h
    obtain ⟨o2, a2⟩ := has d' p' h'
    exact h7 d d' o1 o2 a1 a2 e
  · obtain ⟨o1, a1⟩ := has d p h
    exact h8 d o1 a1
theorem Rep.put_keeps {c : Nat} {o : OB} (hc : At s c o) (k : Nat) (v : Val) (u : HO) : Keeps N s H N (s.withCells (s.cells.set c (some ⟨o.colour, o.slots.set k v⟩))) (upd H (N.sa c) u) := fun b x h f => by
  refine ⟨?_, fun g => f ?_⟩
  · rw [upd_ne (fun e => f (.inr (.inr (.inr ⟨c, o, hc, .inl e⟩))))]; exact h
  · rcases g with g | g | g | ⟨d, p, hp, g⟩
    · exact .inl g
    · exact .inr (.inl g)
    · exact .inr (.inr (.inl g))
    · have hp : (s.cells.set c (some ⟨o.colour, o.slots.set k v⟩))[d]? = some (some p) := hp
      by_cases hd : d = c
      · subst hd
        exact .inr (.inr (.inr ⟨d, o, hc, g⟩))
      · rw [List.getElem?_set_ne fun q => hd q.symm] at hp
        exact .inr (.inr (.inr ⟨d, p, hp, g⟩))
theorem val_upd {oa : Nat → Addr} {c : Nat} {x : Addr} {v : Val} (h : v ≠ .obj c) : valV (fun d => if d = c then x else oa d) v = valV oa v := by
  cases v with
  | none_ => rfl
  | num z => rfl
  | obj d =>
    show V.ref (if d = c then x else oa d) = V.ref (oa d)
    rw [if_neg fun e => h (by rw [e])]
/-- a new object, in a free cell: the instance at x, its slots at l -/
def Nm.new (N : Nm) (c : Nat) (x l : Addr) : Nm := ⟨N.hp, N.lc, N.lr, fun d => if d = c then x else N.oa d, fun d => if d = c then l else N.sa d⟩
theorem map_upd {oa : Nat → Addr} {c : Nat} {x : Addr} {vs : List Val} (h : ∀ v ∈ vs, v ≠ .obj c) : vs.map (valV fun d => if d = c then x else oa d) = vs.map (valV oa) :=
  List.map_congr_left fun v m => val_upd (h v m)
/-- the cells' list and the new object, ahead of the register -/
theorem Rep.new (R : Rep CO CH N s H) (g : Good s) {c n : Nat} (hc : s.cells[c]? = some none) {x l dx : Addr} {xs : List V} (hx : H x = none) (hl : H l = none) (hxs : H N.lc = some (.lst xs))
    (h1 : H' x = some (.ins CO dx (obF (s.newColour c) c l))) (h2 : H' l = some (.lst (List.replicate n .non))) (h3 : H' N.lc = some (.lst (xs.set c (.ref x)))) (kp : ∀ b o, H b = some o → b ≠ N.lc → H' b = some o) :
    Rep CO CH (N.new c x l) (s.withCells (s.cells.set c (some ⟨s.newColour c, List.replicate n .none_⟩))) H' := by
  have hlt : c < s.cells.length := (List.getElem?_eq_some_iff.mp hc).1
  have nobj : ∀ v, Live s v → v ≠ .obj c := fun v h e => by
    obtain ⟨o, h1, _⟩ := h c e
    unfold At at h1
    rw [hc] at h1
    cases h1
  have bwd : ∀ d p, At (s.withCells (s.cells.set c (some ⟨s.newColour c, List.replicate n .none_⟩))) d p → (d = c ∧ p = ⟨s.newColour c, List.replicate n .none_⟩) ∨ (d ≠ c ∧ At s d p) := fun d p h => by
    have h : (s.cells.set c (some ⟨s.newColour c, List.replicate n .none_⟩))[d]? = some (some p) := h
    by_cases hd : d = c
    · subst hd
      rw [List.getElem?_set_self hlt] at h
      exact .inl ⟨rfl, (Option.some.inj (Option.some.inj h)).symm⟩
    · rw [List.getElem?_set_ne fun q => hd q.symm] at h
      exact .inr ⟨hd, h⟩
  obtain ⟨⟨dH, nx, r1, r1n⟩, ⟨ys, r2, r3, r4⟩, r5, r6, r7, r8, r9⟩ := R
  rw [r2] at hxs
  have e := Option.some.inj hxs
  injection e with e
  subst e
  have nl : ∀ d o, At s d o → l ≠ N.sa d := fun d o h e => by
    obtain ⟨_, _, _, q, _⟩ := r6 d o h
    rw [← e, hl] at q
    cases q
  refine ⟨⟨dH, nx, kp _ _ r1 (ne_of r1 r2 (by intro z; cases z)), r1n⟩, ⟨_, h3, by rw [List.length_set]; exact r3, fun d y e => ?_⟩, ?_, fun d p h => ?_, fun d d' p p' h h' e => ?_, fun d p h => ?_, r9⟩
  · have e : (s.cells.set c (some ⟨s.newColour c, List.replicate n .none_⟩))[d]? = some y := e
    by_cases hd : d = c
    · subst hd
      rw [List.getElem?_set_self hlt] at e
      have e := Option.some.inj e
      subst e
      rw [List.getElem?_set_self (by rw [r3, ← g.len]; exact hlt)]
      show _ = some (V.ref (if d = d then x else N.oa d))
      rw [if_pos rfl]
    · rw [List.getElem?_set_ne fun q => hd q.symm] at e ⊢
      rw [r4 d y e]
      cases y with
      | none => rfl
      | some o =>
        show _ = some (V.ref (if d = c then x else N.oa d))
        rw [if_neg hd]
        rfl
  · show H' N.lr = some (HO.lst (s.regs.map (valV fun d => if d = c then x else N.oa d)))
    rw [map_upd fun v m => nobj v (g.regs v m)]
    exact kp _ _ r5 fun e => r9 e.symm
  · rcases bwd d p h with ⟨rfl, rfl⟩ | ⟨hd, h⟩
    · show ∃ dx vs, H' (if d = d then x else N.oa d) = some (.ins CO dx (obF (s.newColour d) d (if d = d then l else N.sa d))) ∧ H' (if d = d then l else N.sa d) = some (.lst vs) ∧ (_ → vs = _)
      rw [if_pos rfl, if_pos rfl]
      exact ⟨dx, _, h1, h2, fun _ => by rw [List.map_replicate]; rfl⟩
    · obtain ⟨dy, vs, g1, g2, g3⟩ := r6 d p h
      show ∃ dx vs, H' (if d = c then x else N.oa d) = some (.ins CO dx (obF p.colour d (if d = c then l else N.sa d))) ∧ H' (if d = c then l else N.sa d) = some (.lst vs) ∧ (_ → vs = p.slots.map (valV fun e => if e = c then x else N.oa e))
      rw [if_neg hd, if_neg hd]
      refine ⟨dy, vs, kp _ _ g1 (ne_of g1 r2 (by intro z; cases z)), kp _ _ g2 (r8 d p h).1, fun k => ?_⟩
      rw [map_upd fun v m => nobj v (g.slots d p h k v m)]
      exact g3 k
  · have e : (if d = c then l else N.sa d) = (if d' = c then l else N.sa d') := e
    rcases bwd d p h with ⟨hd, _⟩ | ⟨hd, b1⟩
    · rcases bwd d' p' h' with ⟨hd', _⟩ | ⟨hd', b2⟩
      · rw [hd, hd']
      · rw [if_pos hd, if_neg hd'] at e
        exact (nl d' p' b2 e).elim
    · rcases bwd d' p' h' with ⟨hd', _⟩ | ⟨hd', b2⟩
      · rw [if_pos hd', if_neg hd] at e
        exact (nl d p b1 e.symm).elim
      · rw [if_neg hd, if_neg hd'] at e
        exact r7 d d' p p' b1 b2 e
  · show (if d = c then l else N.sa d) ≠ N.lc ∧ (if d = c then l else N.sa d) ≠ N.lr
    rcases bwd d p h with ⟨rfl, _⟩ | ⟨hd, h⟩
    · rw [if_pos rfl]
      exact ⟨fun e => (by rw [e, r2] at hl; cases hl), fun e => (by rw [e, r5] at hl; cases hl)⟩
    · rw [if_neg hd]
      exact r8 d p h
theorem Rep.new_keeps {c n : Nat} (hc : s.cells[c]? = some none) {x l : Addr} (hx : H x = none) (hl : H l = none) (kp : ∀ b o, H b = some o → b ≠ N.lc → H' b = some o) :
    Keeps N s H (N.new c x l) (s.withCells (s.cells.set c (some ⟨s.newColour c, List.replicate n .none_⟩))) H' := fun b u h f => by
  refine ⟨kp b u h fun e => f (.inr (.inl e)), fun g => f ?_⟩
  rcases g with g | g | g | ⟨d, p, hp, g⟩
  · exact .inl g
  · exact .inr (.inl g)
  · exact .inr (.inr (.inl g))
  · have hp : (s.cells.set c (some ⟨s.newColour c, List.replicate n .none_⟩))[d]? = some (some p) := hp
    have g : b = (if d = c then l else N.sa d) ∨ b = (if d = c then x else N.oa d) := g
    by_cases hd : d = c
    · rw [if_pos hd, if_pos hd] at g
      rcases g with rfl | rfl
      · rw [hl] at h; cases h
      · rw [hx] at h; cases h
    · rw [List.getElem?_set_ne fun q => hd q.symm] at hp
      rw [if_neg hd, if_neg hd] at g
      exact .inr (.inr (.inr ⟨d, p, hp, g⟩))
end
end Sw

end
section
set_option Elab.async false
set_option linter.all false
set_option maxRecDepth 100000
set_option maxHeartbeats 2000000
namespace Sw
open PySem PySem.Spec PyProof.Rows L2
open HeapNs (Val)
section
variable {CO CH : Addr} {N : Nm} {s s' : HS} {H H' : Hp}
/-- colours and free cells changed, slots and registers not -/
theorem Rep.change (R : Rep CO CH N s H) (er : s'.regs = s.regs)
    (hhp : ∃ dH nx, H' N.hp = some (.ins CH dH (hpF s'.phase nx N.lc N.lr)) ∧ (s'.phase = 2 → nx = s'.at_))
    (hlc : ∃ xs, H' N.lc = some (.lst xs) ∧ xs.length = 64 ∧ ∀ (c : Nat) (x : Option OB), s'.cells[c]? = some x → xs[c]? = some (cellV N.oa c x))
    (hlr : H' N.lr = H N.lr)
    (hob : ∀ c o', At s' c o' → ∃ o, At s c o ∧ o'.slots = o.slots ∧ (Kept s' c o' → Kept s c o) ∧ (∃ dx, H' (N.oa c) = some (.ins CO dx (obF o'.colour c (N.sa c)))) ∧ H' (N.sa c) = H (N.sa c)) : Rep CO CH N s' H' := by
  refine ⟨hhp, hlc, by rw [hlr, er]; exact R.lr, fun c o' h => ?_, fun c c' o o' h h' e => ?_, fun c o h => ?_, R.ncr⟩
  · obtain ⟨o, a, es, hk, ⟨dx, h1⟩, h2⟩ := hob c o' h
    obtain ⟨_, vs, _, g2, g3⟩ := R.ob c o a
    exact ⟨dx, vs, h1, h2.trans g2, fun k => by rw [es]; exact g3 (hk k)⟩
  · obtain ⟨p, a, _⟩ := hob c o h
    obtain ⟨p', a', _⟩ := hob c' o' h'
    exact R.inj c c' p p' a a' e
  · obtain ⟨p, a, _⟩ := hob c o h
    exact R.nc c p a
theorem Keeps.of (h : ∀ b, ¬ Foot N s b → H' b = H b) (f : ∀ c o', At s' c o' → ∃ o, At s c o) : Keeps N s H N s' H' := fun b o e nf => by
  refine ⟨(h b nf).trans e, fun g => nf ?_⟩
  rcases g with g | g | g | ⟨c, p, hp, g⟩
  · exact .inl g
  · exact .inr (.inl g)
  · exact .inr (.inr (.inl g))
  · obtain ⟨o, a⟩ := f c p hp
    exact .inr (.inr (.inr ⟨c, o, a, g⟩))
theorem at_set {l : List (Option OB)} {c d : Nat} {x : Option OB} {p : OB} (h : (l.set c x)[d]? = some (some p)) : (d = c ∧ x = some p) ∨ (d ≠ c ∧ l[d]? = some (some p)) := by
  by_cases hd : d = c
  · subst hd
    by_cases hl : d < l.length
    · rw [List.getElem?_set_self hl] at h
      exact .inl ⟨rfl, Option.some.inj h⟩
    · rw [List.getElem?_eq_none (by rw [List.length_set]; omega)] at h
      cases h
  · rw [List.getElem?_set_ne fun q => hd q.symm] at h
    exact .inr ⟨hd, h⟩
/-- the addresses of the objects and the others -/
theorem Rep.oa_ne (R : Rep CO CH N s H) {c : Nat} {o : OB} (hc : At s c o) : N.oa c ≠ N.lc ∧ N.oa c ≠ N.lr ∧ (∀ d p, At s d p → N.oa c ≠ N.sa d) ∧ (CO ≠ CH → N.oa c ≠ N.hp) := by
  obtain ⟨dx, vs, h1, _⟩ := R.ob c o hc
  obtain ⟨xs, h2, _⟩ := R.lc
  refine ⟨ne_of h1 h2 (by intro z; cases z), ne_of h1 R.lr (by intro z; cases z), fun d p hd => ?_, fun hne => ?_⟩
  · obtain ⟨_, ws, _, h3, _⟩ := R.ob d p hd
    exact ne_of h1 h3 (by intro z; cases z)
  · obtain ⟨dH, nx, h4, _⟩ := R.hp
    refine ne_of h1 h4 ?_
    intro z
    injection z with z1
    exact hne z1
theorem Rep.hp_ne (R : Rep CO CH N s H) : N.hp ≠ N.lc ∧ N.hp ≠ N.lr ∧ ∀ d p, At s d p → N.hp ≠ N.sa d := by
  obtain ⟨dH, nx, h1, _⟩ := R.hp
  obtain ⟨xs, h2, _⟩ := R.lc
  refine ⟨ne_of h1 h2 (by intro z; cases z), ne_of h1 R.lr (by intro z; cases z), fun d p hd => ?_⟩
  obtain ⟨_, ws, _, h3, _⟩ := R.ob d p hd
  exact ne_of h1 h3 (by intro z; cases z)
theorem Rep.oa_hp (R : Rep CO CH N s H) {c : Nat} {o : OB} (hc : At s c o) : N.oa c ≠ N.hp := fun e => by
  obtain ⟨dx, vs, h1, _⟩ := R.ob c o hc
  obtain ⟨dH, nx, h4, _⟩ := R.hp
  rw [e, h4] at h1
  have q := Option.some.inj h1
  injection q with _ _ q
  have q2 := congrArg List.length q
  cases q2
/-- an object's colour changed -/
theorem Rep.colour (R : Rep CO CH N s H) {c k : Nat} {o : OB} {dx : Addr} (hc : At s c o) (hk : Kept (s.withCells (s.cells.set c (some ⟨k, o.slots⟩))) c ⟨k, o.slots⟩ → Kept s c o) :
    Rep CO CH N (s.withCells (s.cells.set c (some ⟨k, o.slots⟩))) (upd H (N.oa c) (.ins CO dx (obF k c (N.sa c)))) := by
  obtain ⟨n1, n2, n3, _⟩ := R.oa_ne hc
  have n4 := R.oa_hp hc
  obtain ⟨dH, nx, h1, h1n⟩ := R.hp
  obtain ⟨xs, h2, h3, h4⟩ := R.lc
  refine R.change (s' := s.withCells (s.cells.set c (some ⟨k, o.slots⟩))) rfl ⟨dH, nx, ?_, h1n⟩ ⟨xs, ?_, h3, fun d x e => ?_⟩ ?_ fun d p h => ?_
  · rw [upd_ne n4.symm]; exact h1
  · rw [upd_ne n1.symm]; exact h2
  · have e : (s.cells.set c (some ⟨k, o.slots⟩))[d]? = some x := e
    by_cases hd : d = c
    · subst hd
      rw [List.getElem?_set_self hc.lt] at e
      have e := Option.some.inj e
      subst e
      exact h4 d (some o) hc
    · rw [List.getElem?_set_ne fun q => hd q.symm] at e
      exact h4 d x e
  · rw [upd_ne n2.symm]
  · rcases at_set h with ⟨rfl, e⟩ | ⟨hd, h⟩
    · have e := Option.some.inj e
      subst e
      exact ⟨o, hc, rfl, hk, ⟨dx, upd_same⟩, by rw [upd_ne (n3 d o hc).symm]⟩
    · obtain ⟨dy, vs, g1, g2, g3⟩ := R.ob d p h
      exact ⟨p, h, rfl, fun z => z, ⟨dy, by rw [upd_ne fun z => hd (R.oinj h hc z)]; exact g1⟩, by rw [upd_ne (n3 d p h).symm]⟩
theorem Rep.colour_out {c : Nat} {o : OB} (hc : At s c o) (u : HO) : ∀ b, ¬ Foot N s b → upd H (N.oa c) u b = H b := fun b nf => upd_ne fun e => nf (.inr (.inr (.inr ⟨c, o, hc, .inr e⟩)))
end
end Sw

end
section
set_option Elab.async false
set_option linter.all false
set_option maxRecDepth 100000
set_option maxHeartbeats 2000000
namespace Sw
open PySem PySem.Spec PyProof.Rows L2
open HeapNs (Val)
open PySem.W (Codec)
def top (i : Nat) : Stmt := PySem.Challenge.pw_sweptheap_s01_answers.main.body.getD i (.Pass ⟨0, 0, 0, 0⟩)
abbrev st_HeapObject_init : Stmt := inClass (top 15) 0
abbrev st_Heap_init : Stmt := inClass (top 16) 0
abbrev st_is_register : Stmt := top 17
abbrev st_least_free_cell : Stmt := top 18
abbrev st_slot_refusal : Stmt := top 19
abbrev st_shade : Stmt := top 22
abbrev st_shade_got : Stmt := top 23
abbrev st_birth_colour : Stmt := top 24
abbrev st_begin_round : Stmt := top 25
abbrev st_least_grey : Stmt := top 26
abbrev st_mark_step : Stmt := top 27
abbrev st_sweep_step : Stmt := top 28
abbrev st_work_steps : Stmt := top 29
abbrev st_tell_phase : Stmt := top 30
abbrev st_new_object : Stmt := top 32
abbrev st_get_from_slot : Stmt := top 33
abbrev st_put_into_slot : Stmt := top 34
abbrev st_set_value : Stmt := top 35
abbrev st_copy_value : Stmt := top 36
abbrev st_meet : Stmt := top 38
abbrev st_objects_met : Stmt := top 39
abbrev st_told_value : Stmt := top 41
abbrev st_look_at : Stmt := top 42
abbrev st_look_at_slot : Stmt := top 43
abbrev st_tell_same : Stmt := top 44
abbrev st_told_in_tree : Stmt := top 45
abbrev st_tell_tree : Stmt := top 46
abbrev st_tell_count : Stmt := top 47
abbrev st_answer_move : Stmt := top 63
abbrev st_answer_view : Stmt := top 64
abbrev st_answer_round : Stmt := top 65
abbrev st_answer_call : Stmt := top 66
abbrev st_answers : Stmt := top 67
theorem sc_HeapObject_init : FnScope ["self", "slot_count", "cell", "colour"] ["self", "slot_count", "cell", "colour"] (defScope st_HeapObject_init) := ⟨rfl, rfl, rfl, by decide +kernel, rfl, by decide +kernel, by decide +kernel⟩
theorem sc_Heap_init : FnScope ["self"] ["self"] (defScope st_Heap_init) := ⟨rfl, rfl, rfl, by decide +kernel, rfl, by decide +kernel, by decide +kernel⟩
theorem sc_is_register : FnScope ["number"] ["number"] (defScope st_is_register) := ⟨rfl, rfl, rfl, by decide +kernel, rfl, by decide +kernel, by decide +kernel⟩
theorem sc_least_free_cell : FnScope ["heap", "cell"] ["heap"] (defScope st_least_free_cell) := ⟨rfl, rfl, rfl, by decide +kernel, rfl, by decide +kernel, by decide +kernel⟩
theorem sc_slot_refusal : FnScope ["heap", "r", "k", "holder"] ["heap", "r", "k"] (defScope st_slot_refusal) := ⟨rfl, rfl, rfl, by decide +kernel, rfl, by decide +kernel, by decide +kernel⟩
theorem sc_shade : FnScope ["value"] ["value"] (defScope st_shade) := ⟨rfl, rfl, rfl, by decide +kernel, rfl, by decide +kernel, by decide +kernel⟩
theorem sc_shade_got : FnScope ["heap", "value"] ["heap", "value"] (defScope st_shade_got) := ⟨rfl, rfl, rfl, by decide +kernel, rfl, by decide +kernel, by decide +kernel⟩
theorem sc_birth_colour : FnScope ["heap", "cell"] ["heap", "cell"] (defScope st_birth_colour) := ⟨rfl, rfl, rfl, by decide +kernel, rfl, by decide +kernel, by decide +kernel⟩
theorem sc_begin_round : FnScope ["heap", "value"] ["heap"] (defScope st_begin_round) := ⟨rfl, rfl, rfl, by decide +kernel, rfl, by decide +kernel, by decide +kernel⟩
theorem sc_least_grey : FnScope ["heap", "standing"] ["heap"] (defScope st_least_grey) := ⟨rfl, rfl, rfl, by decide +kernel, rfl, by decide +kernel, by decide +kernel⟩
theorem sc_mark_step : FnScope ["heap", "grey", "value"] ["heap"] (defScope st_mark_step) := ⟨rfl, rfl, rfl, by decide +kernel, rfl, by decide +kernel, by decide +kernel⟩
theorem sc_sweep_step : FnScope ["heap", "standing"] ["heap"] (defScope st_sweep_step) := ⟨rfl, rfl, rfl, by decide +kernel, rfl, by decide +kernel, by decide +kernel⟩
theorem sc_work_steps : FnScope ["heap", "n", "done"] ["heap", "n"] (defScope st_work_steps) := ⟨rfl, rfl, rfl, by decide +kernel, rfl, by decide +kernel, by decide +kernel⟩
theorem sc_tell_phase : FnScope ["heap"] ["heap"] (defScope st_tell_phase) := ⟨rfl, rfl, rfl, by decide +kernel, rfl, by decide +kernel, by decide +kernel⟩
theorem sc_new_object : FnScope ["heap", "r", "n", "cell", "made"] ["heap", "r", "n"] (defScope st_new_object) := ⟨rfl, rfl, rfl, by decide +kernel, rfl, by decide +kernel, by decide +kernel⟩
theorem sc_get_from_slot : FnScope ["heap", "d", "r", "k", "refusal", "value"] ["heap", "d", "r", "k"] (defScope st_get_from_slot) := ⟨rfl, rfl, rfl, by decide +kernel, rfl, by decide +kernel, by decide +kernel⟩
theorem sc_put_into_slot : FnScope ["heap", "r", "k", "d", "refusal"] ["heap", "r", "k", "d"] (defScope st_put_into_slot) := ⟨rfl, rfl, rfl, by decide +kernel, rfl, by decide +kernel, by decide +kernel⟩
theorem sc_set_value : FnScope ["heap", "r", "value"] ["heap", "r", "value"] (defScope st_set_value) := ⟨rfl, rfl, rfl, by decide +kernel, rfl, by decide +kernel, by decide +kernel⟩
theorem sc_copy_value : FnScope ["heap", "r", "d"] ["heap", "r", "d"] (defScope st_copy_value) := ⟨rfl, rfl, rfl, by decide +kernel, rfl, by decide +kernel, by decide +kernel⟩
theorem sc_meet : FnScope ["values", "met", "seen", "value"] ["values", "met", "seen"] (defScope st_meet) := ⟨rfl, rfl, rfl, by decide +kernel, rfl, by decide +kernel, by decide +kernel⟩
theorem sc_objects_met : FnScope ["values", "met", "seen", "place"] ["values"] (defScope st_objects_met) := ⟨rfl, rfl, rfl, by decide +kernel, rfl, by decide +kernel, by decide +kernel⟩
theorem sc_told_value : FnScope ["value"] ["value"] (defScope st_told_value) := ⟨rfl, rfl, rfl, by decide +kernel, rfl, by decide +kernel, by decide +kernel⟩
theorem sc_look_at : FnScope ["heap", "r"] ["heap", "r"] (defScope st_look_at) := ⟨rfl, rfl, rfl, by decide +kernel, rfl, by decide +kernel, by decide +kernel⟩
theorem sc_look_at_slot : FnScope ["heap", "r", "k", "refusal"] ["heap", "r", "k"] (defScope st_look_at_slot) := ⟨rfl, rfl, rfl, by decide +kernel, rfl, by decide +kernel, by decide +kernel⟩
theorem sc_tell_same : FnScope ["heap", "r", "d"] ["heap", "r", "d"] (defScope st_tell_same) := ⟨rfl, rfl, rfl, by decide +kernel, rfl, by decide +kernel, by decide +kernel⟩
theorem sc_told_in_tree : FnScope ["value", "places"] ["value", "places"] (defScope st_told_in_tree) := ⟨rfl, rfl, rfl, by decide +kernel, rfl, by decide +kernel, by decide +kernel⟩
theorem sc_tell_tree : FnScope ["heap", "r", "met", "places", "place", "told", "standing", "value"] ["heap", "r"] (defScope st_tell_tree) := ⟨rfl, rfl, rfl, by decide +kernel, rfl, by decide +kernel, by decide +kernel⟩
theorem sc_tell_count : FnScope ["heap", "used", "live"] ["heap"] (defScope st_tell_count) := ⟨rfl, rfl, rfl, by decide +kernel, rfl, by decide +kernel, by decide +kernel⟩
theorem sc_answer_move : FnScope ["heap", "call", "given"] ["heap", "call", "given"] (defScope st_answer_move) := ⟨rfl, rfl, rfl, by decide +kernel, rfl, by decide +kernel, by decide +kernel⟩
theorem sc_answer_view : FnScope ["heap", "call", "given"] ["heap", "call", "given"] (defScope st_answer_view) := ⟨rfl, rfl, rfl, by decide +kernel, rfl, by decide +kernel, by decide +kernel⟩
theorem sc_answer_round : FnScope ["heap", "call", "given"] ["heap", "call", "given"] (defScope st_answer_round) := ⟨rfl, rfl, rfl, by decide +kernel, rfl, by decide +kernel, by decide +kernel⟩
theorem sc_answer_call : FnScope ["heap", "call", "given"] ["heap", "call", "given"] (defScope st_answer_call) := ⟨rfl, rfl, rfl, by decide +kernel, rfl, by decide +kernel, by decide +kernel⟩
theorem sc_answers : FnScope ["calls", "heap", "told", "place", "call", "behind", "answer"] ["calls"] (defScope st_answers) := ⟨rfl, rfl, rfl, by decide +kernel, rfl, by decide +kernel, by decide +kernel⟩
theorem pe_gint {X : Cx} {x : Str} {i : Int} {pos : Pos} (hg : Gl X x) (hm : ∃ t, X.mg x = some (.int i t)) (hd : (x == ("__debug__" : Str)) = false := by decide) : PE X (.Name x pos) (tC (.int i)) := by
  obtain ⟨t, g⟩ := hm
  exact pe_glob (v := .int i) hg g ⟨t, rfl⟩ hd
theorem boot_isi : bootBuiltins "isinstance" = some (.builtin "isinstance") := by decide +kernel
/-- isinstance(x, C) -/
def rIsi (K : PySem.W.Frag) : List V → Hp → VK → Prop := fun xs H Q => ∃ x t b c, xs = [x, .ref c] ∧ TyOf K H x t ∧ PySem.W.kitOne K t (.ref c) = some b ∧ Q (.bl b) H
theorem call_isi {X : Cx} : CallR X (.builtin "isinstance") (rIsi X.K) := by
  intro pins s σ H xs us Q I r h
  obtain ⟨x, t, b, c, rfl, ty, e, q⟩ := h
  obtain ⟨u, w', rfl, ru, rw'⟩ := vals2 r
  cases rw'
  exact isinst_ok I ru ty e fun tk => ⟨.bl b, H, I.tok tk, rfl, q⟩
structure Txt (K : PySem.W.Frag) (mg : Str → Option Value) (CO : Addr) (CH : Addr) : Prop where
  cl_HeapObject : Cls K CO
  n_HeapObject_slots : NoAttr K CO "slots"
  n_HeapObject_cell : NoAttr K CO "cell"
  n_HeapObject_colour : NoAttr K CO "colour"
  mg_HeapObject : mg "HeapObject" = some (.ref CO)
  kit_HeapObject : PySem.W.kitOne K (.ref CO) (.ref CO) = some true
  kitN_HeapObject : PySem.W.kitOne K (.type "NoneType") (.ref CO) = some false
  kitI_HeapObject : PySem.W.kitOne K (.type "int") (.ref CO) = some false
  c1_HeapObject : PySem.W.findIn K (.ref CO) "__class__" = some (some (.builtin "object.__class__"))
  c2_HeapObject : PySem.W.specialIn K (.builtin "object.__class__") "__get__" = some (some (.builtin "getset_descriptor.__get__"))
  c3_HeapObject : PySem.W.takesIn K (.builtin "object.__class__") = some true
  c4_HeapObject : PySem.W.mroIn K CO (.type "object") = some true
  e1_HeapObject : PySem.W.findIn K (.ref CO) "__eq__" = some (some (.builtin "object.__eq__"))
  e2_HeapObject : PySem.W.mroIn K CO (.type "int") = some false
  e3_HeapObject : PySem.W.mroIn K CO (.type "NoneType") = some false
  cl_Heap : Cls K CH
  n_Heap_cells : NoAttr K CH "cells"
  n_Heap_registers : NoAttr K CH "registers"
  n_Heap_phase : NoAttr K CH "phase"
  n_Heap_next_cell : NoAttr K CH "next_cell"
  mg_Heap : mg "Heap" = some (.ref CH)
  kit_Heap : PySem.W.kitOne K (.ref CH) (.ref CH) = some true
  kitN_Heap : PySem.W.kitOne K (.type "NoneType") (.ref CH) = some false
  kitI_Heap : PySem.W.kitOne K (.type "int") (.ref CH) = some false
  c1_Heap : PySem.W.findIn K (.ref CH) "__class__" = some (some (.builtin "object.__class__"))
  c2_Heap : PySem.W.specialIn K (.builtin "object.__class__") "__get__" = some (some (.builtin "getset_descriptor.__get__"))
  c3_Heap : PySem.W.takesIn K (.builtin "object.__class__") = some true
  c4_Heap : PySem.W.mroIn K CH (.type "object") = some true
  e1_Heap : PySem.W.findIn K (.ref CH) "__eq__" = some (some (.builtin "object.__eq__"))
  e2_Heap : PySem.W.mroIn K CH (.type "int") = some false
  e3_Heap : PySem.W.mroIn K CH (.type "NoneType") = some false
  g_OUT_OF_RANGE : ∃ t, mg "OUT_OF_RANGE" = some (.int (-1) t)
  g_NOT_IDLE : ∃ t, mg "NOT_IDLE" = some (.int (-3) t)
  g_NO_SUCH_SLOT : ∃ t, mg "NO_SUCH_SLOT" = some (.int (-4) t)
  g_NO_OBJECT : ∃ t, mg "NO_OBJECT" = some (.int (-5) t)
  g_NO_FREE_CELL : ∃ t, mg "NO_FREE_CELL" = some (.int (-6) t)
  g_CELL_COUNT : ∃ t, mg "CELL_COUNT" = some (.int (64) t)
  g_REGISTER_COUNT : ∃ t, mg "REGISTER_COUNT" = some (.int (8) t)
  g_MOST_SLOTS : ∃ t, mg "MOST_SLOTS" = some (.int (8) t)
  g_WHITE : ∃ t, mg "WHITE" = some (.int (0) t)
  g_GREY : ∃ t, mg "GREY" = some (.int (1) t)
  g_BLACK : ∃ t, mg "BLACK" = some (.int (2) t)
  g_IDLE : ∃ t, mg "IDLE" = some (.int (0) t)
  g_MARKING : ∃ t, mg "MARKING" = some (.int (1) t)
  g_SWEEPING : ∃ t, mg "SWEEPING" = some (.int (2) t)
  g_MOST_STEPS : ∃ t, mg "MOST_STEPS" = some (.int (1000) t)
  g_NEW : ∃ t, mg "NEW" = some (.int (0) t)
  g_GET : ∃ t, mg "GET" = some (.int (1) t)
  g_PUT : ∃ t, mg "PUT" = some (.int (2) t)
  g_NUM : ∃ t, mg "NUM" = some (.int (3) t)
  g_CLEAR : ∃ t, mg "CLEAR" = some (.int (4) t)
  g_COPY : ∃ t, mg "COPY" = some (.int (5) t)
  g_LOOK : ∃ t, mg "LOOK" = some (.int (6) t)
  g_SLOT : ∃ t, mg "SLOT" = some (.int (7) t)
  g_SAME : ∃ t, mg "SAME" = some (.int (8) t)
  g_TREE : ∃ t, mg "TREE" = some (.int (9) t)
  g_BEGIN : ∃ t, mg "BEGIN" = some (.int (10) t)
  g_WORK : ∃ t, mg "WORK" = some (.int (11) t)
  g_PHASE : ∃ t, mg "PHASE" = some (.int (12) t)
  t_GIVEN_COUNTS : ∃ a, mg "GIVEN_COUNTS" = some (.ref a) ∧ ∀ H : Hp, SqT K H a [.int (2), .int (3), .int (3), .int (2), .int (1), .int (2), .int (1), .int (2), .int (2), .int (1), .int (0), .int (1), .int (0), .int (0)]
  b_isinstance : mg "isinstance" = none
  b_len : mg "len" = none
  b_range : mg "range" = none
end Sw

end
section
set_option Elab.async false
set_option linter.all false
set_option maxRecDepth 100000
set_option maxHeartbeats 2000000
namespace Sw
open PySem PySem.Spec PyProof.Rows L2
open HeapNs (Val)
open PySem.W (Codec)
theorem Live.at {s : HS} {v : Val} (h : Live s v) : ∀ c, v = .obj c → ∃ o, At s c o := fun c e =>
  let ⟨o, a, _⟩ := h c e
  ⟨o, a⟩
/-- a value, as isinstance takes it -/
def isOb : Val → Bool
  | .obj _ => true
  | _ => false
theorem reg_cases {s : HS} (g : Good s) {r : Nat} (hr : r < 8) : (isOb (s.reg r) = true ∧ ∃ c o, s.reg r = .obj c ∧ At s c o ∧ Kept s c o ∧ HeapNs.object s r = some (c, o)) ∨ (isOb (s.reg r) = false ∧ HeapNs.object s r = none) := by
  cases e : s.reg r with
  | none_ => exact .inr ⟨rfl, object_no fun c h => by rw [e] at h; cases h⟩
  | num z => exact .inr ⟨rfl, object_no fun c h => by rw [e] at h; cases h⟩
  | obj c =>
    obtain ⟨o, ho, hk, hob⟩ := object_obj g hr e
    exact .inl ⟨rfl, c, o, rfl, ho, hk, hob⟩
theorem ty_val {K : PySem.W.Frag} {mg : Str → Option Value} {CO CH : Addr} (T : Txt K mg CO CH) {N : Nm} {s : HS} {H : Hp} (R : Rep CO CH N s H) {v : Val} (hv : ∀ c, v = .obj c → ∃ o, At s c o) :
    ∃ t, TyOf K H (valV N.oa v) t ∧ PySem.W.kitOne K t (.ref CO) = some (isOb v) := by
  cases v with
  | none_ => exact ⟨_, .non, T.kitN_HeapObject⟩
  | num z => exact ⟨_, .int z, T.kitI_HeapObject⟩
  | obj c =>
    obtain ⟨o, h1⟩ := hv c rfl
    obtain ⟨dx, vs, h2, _⟩ := R.ob c o h1
    exact ⟨_, .ins h2 T.cl_HeapObject T.c1_HeapObject T.c2_HeapObject T.c3_HeapObject T.c4_HeapObject, T.kit_HeapObject⟩
theorem reg_at {N : Nm} {s : HS} (g : Good s) {r : Nat} (hr : r < 8) : (s.regs.map (valV N.oa))[r]? = some (valV N.oa (s.reg r)) := by
  rw [List.getElem?_map, reg_get (by rw [g.rlen]; exact hr)]
  rfl
section
variable {P : Program} {w : World} {K : PySem.W.Frag} {mg : Str → Option Value} {base : Heap} {CO CH : Addr}
def spReg : Sp := fun vs H Q _ => ∃ n : Nat, vs = [.int n] ∧ Q (.bl (HeapNs.isReg n)) H
theorem ok_reg {f : Addr} {fd : FuncData} (F : Fun K "is_register" "is_register" st_is_register f fd) (T : Txt K mg CO CH) : FnOk P w K mg base CX0 1 f fd ["number"] spReg := by
  refine F.ok sc_is_register (fun vs H Q E h => ?_) (fun cdv A outer s H vs Q E hr h => ?_)
  · obtain ⟨n, rfl, _⟩ := h
    rfl
  · obtain ⟨n, rfl, k⟩ := h
    refine ⟨_, pss_one (ps_ret (pe_chain op_le op_lt pe_int (pv 0) (pe_gint rfl T.g_REGISTER_COUNT))), ?_⟩
    refine ⟨_, rfl, _, _, rfl, rfl, _, rfl, ?_⟩
    rw [if_pos (decide_eq_true (Int.natCast_nonneg n))]
    refine ⟨_, _, rfl, rfl, ?_⟩
    have e : decide ((n : Int) < 8) = HeapNs.isReg n := by
      unfold HeapNs.isReg
      exact decide_eq_decide.mpr (by show (n : Int) < 8 ↔ n < 8; omega)
    show Q (.bl (decide ((n : Int) < 8))) H
    rw [e]
    exact k
/-- the refusal due for slot k of the object in r -/
def refusal (s : HS) (r k : Nat) : Option Int := match HeapNs.object s r with
  | none => some (-5)
  | some x => if x.2.slots.length ≤ k then some (-4) else none
def optV : Option Int → V
  | some i => .int i
  | none => .non
def spRef (CO CH : Addr) : Sp := fun vs H Q _ => ∃ (N : Nm) (s : HS) (r k : Nat), vs = [.ref N.hp, .int r, .int k] ∧ Rep CO CH N s H ∧ Good s ∧ r < 8 ∧ Q (optV (refusal s r k)) H
theorem ok_ref {f : Addr} {fd : FuncData} (F : Fun K "slot_refusal" "slot_refusal" st_slot_refusal f fd) (T : Txt K mg CO CH) : FnOk P w K mg base CX0 1 f fd ["heap", "r", "k"] (spRef CO CH) := by
  refine F.ok sc_slot_refusal (fun vs H Q E h => ?_) (fun cdv A outer s H vs Q E hr h => ?_)
  · obtain ⟨N, s, r, k, rfl, _⟩ := h
    rfl
  · obtain ⟨N, s, r, k, rfl, R, g, hr8, q⟩ := h
    refine ⟨_, pss_cons (ps_set (i := 3) sc_slot_refusal.nd rfl (Or.inl rfl) (pe_ix ix_list (pe_fld (pv 0) rfl) (pv 1) (fun _ _ => rfl)))
      (pss_cons (ps_if (pt_not (pt_val (pe_callB call_isi (by rfl) T.b_isinstance boot_isi (pa_cons (pv 3) (pa_cons (pe_glob (v := .ref CO) rfl T.mg_HeapObject rfl) pa_nil))))) (pss_one (ps_ret (pe_gint rfl T.g_NO_OBJECT))) pss_nil)
      (pss_cons (ps_if (pt_not (pt_chain op_le op_lt pe_int (pv 2) (pe_callB call_len_seq (by rfl) T.b_len PySem.boot_len (pa_cons (pe_fld (pv 3) rfl) pa_nil)))) (pss_one (ps_ret (pe_gint rfl T.g_NO_SUCH_SLOT))) pss_nil)
      (pss_one (ps_ret pe_non)))), ?_⟩
    obtain ⟨dH, nx, hH, hnx⟩ := R.hp
    obtain ⟨t, ty, kt⟩ := ty_val T R (Live.at (g.regs _ (reg_mem (r := r) (by rw [g.rlen]; exact hr8))))
    refine ⟨_, rfl, N.hp, CH, dH, _, _, rfl, hH, T.cl_Heap, T.n_Heap_registers, hpF_regs .., _, rfl, N.lr, _, _, _, rfl, rfl, SqL.of R.lr, atI_nat (reg_at g hr8), ?_⟩
    rcases reg_cases g hr8 with ⟨eb, c, o, er, ho, hk, hob⟩ | ⟨eb, hob⟩
    rotate_left
    · rw [eb] at kt
      refine ⟨_, rfl, _, t, _, CO, rfl, ty, kt, _, rfl, iteT ?_⟩
      show Q (.int (-5)) H
      unfold refusal at q
      rw [hob] at q
      exact q
    · rw [eb] at kt
      refine ⟨_, rfl, _, t, _, CO, rfl, ty, kt, _, rfl, iteF ?_⟩
      obtain ⟨dx, vs, h1, h2, h3⟩ := R.ob c o ho
      have h3 := h3 hk
      subst h3
      unfold refusal at q
      rw [hob] at q
      dsimp only at q
      refine ⟨_, rfl, _, _, rfl, rfl, _, rfl, ?_⟩
      rw [if_pos (decide_eq_true (Int.natCast_nonneg k))]
      refine ⟨_, rfl, N.oa c, CO, dx, _, _, (by rw [er]; rfl), h1, T.cl_HeapObject, T.n_HeapObject_slots, obF_slots .., N.sa c, _, rfl, .inl (SqL.of h2), _, _, rfl, rfl, _, rfl, ?_⟩
      rw [List.length_map]
      by_cases hl : o.slots.length ≤ k
      · rw [if_pos hl] at q
        rw [decide_eq_false (show ¬ (k : Int) < (o.slots.length : Nat) by omega)]
        exact iteT q
      · rw [if_neg hl] at q
        rw [decide_eq_true (show (k : Int) < (o.slots.length : Nat) by omega)]
        exact iteF q
end
end Sw

end
section
set_option Elab.async false
set_option linter.all false
set_option maxRecDepth 100000
set_option maxHeartbeats 2000000
namespace Sw
open PySem PySem.Spec PyProof.Rows L2
open HeapNs (Val)
open PySem.W (Codec)
/-- a def of the text, by its name, with its promise -/
structure Has (P : Program) (w : World) (K : PySem.W.Frag) (mg : Str → Option Value) (base : Heap) (k : Nat) (x : Str) (ps : List Str) (sp : Sp) : Prop where
  ex : ∃ f fd, mg x = some (.ref f) ∧ PySem.W.keepIn K (.ref f) = true ∧ Binds K fd ps [] ∧ FnOk P w K mg base CX0 k f fd ps sp
theorem pe_h {X : Cx} {k : Nat} {x : Str} {ps : List Str} {sp : Sp} {e : Expr} {es : List Expr} {t : TA} {p pos : Pos} (h : Has X.prog X.w X.K X.mg X.base k x ps sp) (hr : Room k X.A) (hg : Gl X x) (ha : PA X (e :: es) t)
    (hdb : (x == ("__debug__" : Str)) = false := by decide) (he : starEach (e :: es) X.env = (false, eval e X.env) :: starEach es X.env := by rfl) (hpl : (backTo pos (starEach es X.env)).any (·.1) = false := by rfl) :
    PE X (.Call (.Name x p) (e :: es) [] pos) (tCall sp [] E0 t) := by
  obtain ⟨f, fd, hm, hk, hb, F⟩ := h.ex
  exact pe_call F hr hg hm hk hb .nil pass0 ha hdb he hpl
theorem Has.mono {P : Program} {w : World} {K : PySem.W.Frag} {mg : Str → Option Value} {base : Heap} {j k : Nat} {x : Str} {ps : List Str} {sp : Sp} (h : Has P w K mg base j x ps sp) (hk : j ≤ k) : Has P w K mg base k x ps sp := by
  obtain ⟨f, fd, h1, h2, h3, h4⟩ := h.ex
  exact ⟨f, fd, h1, h2, h3, h4.mono hk⟩
/-- what a call of the document is to do -/
def After (CO CH : Addr) (N : Nm) (s : HS) (H : Hp) (c : HeapNs.Call) (Q : VK) : Prop :=
  ∀ (N' : Nm) (H' : Hp) (p : Addr), N'.hp = N.hp → Rep CO CH N' (HeapNs.step s c).1 H' → Keeps N s H N' (HeapNs.step s c).1 H' → H p = none → H' p = some (.lst ((HeapNeutral.shown (HeapNs.step s c).2).map V.int)) → ¬ Foot N' (HeapNs.step s c).1 p → Q (.ref p) H'
theorem Same.upd {H : Hp} {p : Addr} {o : HO} (h : H p = none) : Same H (upd H p o) := fun b u e => by
  rw [upd_ne (ne_of_none e h)]
  exact e
/-- a call that changes nothing, its answer a new list -/
theorem After.still {CO CH : Addr} {N : Nm} {s : HS} {H : Hp} {c : HeapNs.Call} {Q : VK} {xs : List V} (a : After CO CH N s H c Q) (R : Rep CO CH N s H) (hs : (HeapNs.step s c).1 = s) (hx : xs = (HeapNeutral.shown (HeapNs.step s c).2).map V.int) : ∀ p, H p = none → Q (.ref p) (upd H p (.lst xs)) := fun p hp => by
  refine a N _ p rfl ?_ ?_ hp (by rw [hx]; exact upd_same) ?_
  · rw [hs]; exact R.same (Same.upd hp)
  · rw [hs]; exact (Keeps.refl _ _ _).same (Same.upd hp)
  · rw [hs]; exact R.fresh hp
section
variable {P : Program} {w : World} {K : PySem.W.Frag} {mg : Str → Option Value} {base : Heap} {CO CH : Addr}
/-! told_value, look_at -/
def spTold (CO CH : Addr) : Sp := fun vs H Q _ => ∃ (N : Nm) (s : HS) (v : Val), vs = [valV N.oa v] ∧ Rep CO CH N s H ∧ Live s v ∧ Good s ∧ ∀ p, H p = none → Q (.ref p) (upd H p (.lst ((HeapNeutral.shown (HeapNs.valAnswer s v)).map V.int)))
theorem ok_told {f : Addr} {fd : FuncData} (F : Fun K "told_value" "told_value" st_told_value f fd) (T : Txt K mg CO CH) : FnOk P w K mg base CX0 1 f fd ["value"] (spTold CO CH) := by
  refine F.ok sc_told_value (fun vs H Q E h => ?_) (fun cdv A outer s H vs Q E hr h => ?_)
  · obtain ⟨N, s, v, rfl, _⟩ := h
    rfl
  · obtain ⟨N, s, v, rfl, R, hv, g, q⟩ := h
    refine ⟨_, pss_cons (ps_if (pt_cmp (pc_isN (pv 0))) (pss_one (ps_ret (pe_lst (pa_cons pe_int pa_nil)))) pss_nil)
      (pss_cons (ps_if (pt_val (pe_callB call_isi (by rfl) T.b_isinstance boot_isi (pa_cons (pv 0) (pa_cons (pe_glob (v := .ref CO) rfl T.mg_HeapObject rfl) pa_nil))))
        (pss_one (ps_ret (pe_lst (pa_cons pe_int (pa_cons pe_int (pa_cons (pe_callB call_len_seq (by rfl) T.b_len PySem.boot_len (pa_cons (pe_fld (pv 0) rfl) pa_nil)) pa_nil)))))) pss_nil)
      (pss_one (ps_ret (pe_lst (pa_cons pe_int (pa_cons pe_int (pa_cons (pv 0) pa_nil))))))), ?_⟩
    cases v with
    | none_ => exact ⟨_, rfl, _, rfl, iteT ⟨(by show 1 ≤ sizeLine; decide), fun p hp => q p hp⟩⟩
    | num z =>
      obtain ⟨t, ty, kt⟩ := ty_val T R (Live.at hv)
      exact ⟨_, rfl, _, rfl, iteF ⟨_, rfl, _, t, _, CO, rfl, ty, kt, _, rfl, iteF ⟨_, rfl, (by show 3 ≤ sizeLine; decide), fun p hp => q p hp⟩⟩⟩
    | obj c =>
      obtain ⟨t, ty, kt⟩ := ty_val T R (Live.at hv)
      obtain ⟨o, ho, hk⟩ := hv c rfl
      obtain ⟨dx, vs, h1, h2, h3⟩ := R.ob c o ho
      have h3 := h3 hk
      subst h3
      refine ⟨_, rfl, _, rfl, iteF ⟨_, rfl, _, t, _, CO, rfl, ty, kt, _, rfl, iteT ⟨_, rfl, N.oa c, CO, dx, _, _, rfl, h1, T.cl_HeapObject, T.n_HeapObject_slots, obF_slots .., N.sa c, _, rfl, .inl (SqL.of h2), (by show 3 ≤ sizeLine; decide), fun p hp => ?_⟩⟩⟩
      have q := q p hp
      unfold HeapNs.valAnswer at q
      dsimp only at q
      rw [cell_eq ho] at q
      rw [List.length_map]
      exact q
def spLook (CO CH : Addr) : Sp := fun vs H Q _ => ∃ (N : Nm) (s : HS) (r : Nat), vs = [.ref N.hp, .int r] ∧ Rep CO CH N s H ∧ Good s ∧ After CO CH N s H (.look r) Q
theorem ok_look {f : Addr} {fd : FuncData} (F : Fun K "look_at" "look_at" st_look_at f fd) (T : Txt K mg CO CH) (hReg : Has P w K mg base 1 "is_register" ["number"] spReg) (hTold : Has P w K mg base 1 "told_value" ["value"] (spTold CO CH)) :
    FnOk P w K mg base CX0 2 f fd ["heap", "r"] (spLook CO CH) := by
  refine F.ok sc_look_at (fun vs H Q E h => ?_) (fun cdv A outer s H vs Q E hr h => ?_)
  · obtain ⟨N, s, r, rfl, _⟩ := h
    rfl
  · obtain ⟨N, s, r, rfl, R, g, q⟩ := h
    refine ⟨_, pss_cons (ps_if (pt_not (pt_val (pe_h hReg hr rfl (pa_cons (pv 1) pa_nil)))) (pss_one (ps_ret (pe_lst (pa_cons (pe_gint rfl T.g_OUT_OF_RANGE) pa_nil)))) pss_nil)
      (pss_one (ps_ret (pe_h hTold hr rfl (pa_cons (pe_ix ix_list (pe_fld (pv 0) rfl) (pv 1) (fun _ _ => rfl)) pa_nil)))), ?_⟩
    refine ⟨_, rfl, r, rfl, _, rfl, ?_⟩
    cases e : HeapNs.isReg r with
    | false =>
      refine iteT ⟨(by show 1 ≤ sizeLine; decide), q.still R rfl ?_⟩
      show _ = (HeapNeutral.shown (if HeapNs.isReg r = false then HeapNs.says (-1) else _)).map V.int
      rw [if_pos e]
      rfl
    | true =>
      have hr8 := isReg_iff.mp e
      obtain ⟨dH, nx, hH, hnx⟩ := R.hp
      refine iteF ⟨_, rfl, N.hp, CH, dH, _, _, rfl, hH, T.cl_Heap, T.n_Heap_registers, hpF_regs .., _, rfl, N.lr, _, _, _, rfl, rfl, SqL.of R.lr, atI_nat (reg_at g hr8), ?_⟩
      refine ⟨N, s, s.reg r, rfl, R, g.regs _ (reg_mem (by rw [g.rlen]; exact hr8)), g, q.still R rfl ?_⟩
      show _ = (HeapNeutral.shown (if HeapNs.isReg r = false then HeapNs.says (-1) else HeapNs.valAnswer s (s.reg r))).map V.int
      rw [if_neg (by rw [e]; decide)]
/-! set_value, copy_value -/
def spSet (CO CH : Addr) : Sp := fun vs H Q _ => ∃ (N : Nm) (s : HS) (r : Nat) (v : Val) (c : HeapNs.Call), vs = [.ref N.hp, .int r, valV N.oa v] ∧ ((∃ z, v = .num z ∧ c = .num r z) ∨ (v = .none_ ∧ c = .clear r)) ∧ Rep CO CH N s H ∧ Good s ∧ After CO CH N s H c Q
theorem set_step {s : HS} {r : Nat} {v : Val} {c : HeapNs.Call} (h : (∃ z, v = .num z ∧ c = .num r z) ∨ (v = .none_ ∧ c = .clear r)) : HeapNs.step s c = if HeapNs.isReg r = false then (s, HeapNs.says (-1)) else (s.withReg r v, HeapNs.says 0) := by
  rcases h with ⟨z, rfl, rfl⟩ | ⟨rfl, rfl⟩ <;> rfl
theorem ok_set {f : Addr} {fd : FuncData} (F : Fun K "set_value" "set_value" st_set_value f fd) (T : Txt K mg CO CH) (hReg : Has P w K mg base 1 "is_register" ["number"] spReg) :
    FnOk P w K mg base CX0 2 f fd ["heap", "r", "value"] (spSet CO CH) := by
  refine F.ok sc_set_value (fun vs H Q E h => ?_) (fun cdv A outer s H vs Q E hr h => ?_)
  · obtain ⟨N, s, r, v, c, rfl, _⟩ := h
    rfl
  · obtain ⟨N, s, r, v, c, rfl, hc, R, g, q⟩ := h
    refine ⟨_, pss_cons (ps_if (pt_not (pt_val (pe_h hReg hr rfl (pa_cons (pv 1) pa_nil)))) (pss_one (ps_ret (pe_lst (pa_cons (pe_gint rfl T.g_OUT_OF_RANGE) pa_nil)))) pss_nil)
      (pss_cons (ps_asg (pv 2) (pg_sub (pe_fld (pv 0) rfl) (pv 1) set_list)) (pss_one (ps_ret (pe_lst (pa_cons pe_int pa_nil))))), ?_⟩
    refine ⟨_, rfl, r, rfl, _, rfl, ?_⟩
    have es := set_step (s := s) hc
    cases e : HeapNs.isReg r with
    | false =>
      rw [if_pos e] at es
      refine iteT ⟨(by show 1 ≤ sizeLine; decide), q.still R (by rw [es]) ?_⟩
      rw [es]
      rfl
    | true =>
      rw [if_neg (by rw [e]; decide)] at es
      have hr8 := isReg_iff.mp e
      obtain ⟨dH, nx, hH, hnx⟩ := R.hp
      refine iteF ⟨_, rfl, _, rfl, N.hp, CH, dH, _, _, rfl, hH, T.cl_Heap, T.n_Heap_registers, hpF_regs .., _, rfl, N.lr, _, _, r, rfl, rfl, R.lr, ?_, (by show 1 ≤ sizeLine; decide), fun p hp => ?_⟩
      · show ixN (s.regs.map (valV N.oa)).length (r : Int) = some r
        unfold ixN
        rw [List.length_map, g.rlen, if_pos (Int.natCast_nonneg r), if_pos (by omega)]
        rfl
      · have R2 := R.reg r v
        have hp0 : H p = none := by
          cases q : H p with
          | none => rfl
          | some o =>
            by_cases hlr : p = N.lr
            · subst hlr; rw [upd_same] at hp; cases hp
            · rw [upd_ne hlr, q] at hp; cases hp
        refine q N _ p rfl ?_ ?_ hp0 ?_ ?_
        · rw [es]; exact R2.same (Same.upd hp)
        · rw [es]; exact (R.reg_keeps r v _).same (Same.upd hp)
        · rw [es]; exact upd_same
        · rw [es]; exact R2.fresh hp
end
end Sw

end
section
set_option Elab.async false
set_option linter.all false
set_option maxRecDepth 100000
set_option maxHeartbeats 2000000
namespace Sw
open PySem PySem.Spec PyProof.Rows L2
open HeapNs (Val)
open PySem.W (Codec)
theorem fresh_upd {H : Hp} {a p : Addr} {o : HO} (h : upd H a o p = none) : H p = none := by
  by_cases e : p = a
  · subst e; rw [upd_same] at h; cases h
  · rw [upd_ne e] at h; exact h
theorem ixN_nat {n k : Nat} (h : k < n) : ixN n (k : Int) = some k := by
  unfold ixN
  rw [if_pos (Int.natCast_nonneg k), if_pos (by omega)]
  rfl
/-- not a or not b, of two registers -/
theorem bad_or {r d : Nat} : ¬ (HeapNs.isReg r = false ∨ HeapNs.isReg d = false) → r < 8 ∧ d < 8 := fun h =>
  let ⟨a, b⟩ := not_bad h
  ⟨isReg_iff.mp a, isReg_iff.mp b⟩
section
variable {P : Program} {w : World} {K : PySem.W.Frag} {mg : Str → Option Value} {base : Heap} {CO CH : Addr}
def spCpy (CO CH : Addr) : Sp := fun vs H Q _ => ∃ (N : Nm) (s : HS) (r d : Nat), vs = [.ref N.hp, .int r, .int d] ∧ Rep CO CH N s H ∧ Good s ∧ After CO CH N s H (.copy r d) Q
/-- the test of two registers: one is wrong, or both are right -/
theorem two_regs {r d : Nat} {A B : Prop} (h1 : HeapNs.isReg r = false ∨ HeapNs.isReg d = false → A) (h2 : r < 8 → d < 8 → B) :
    if (!HeapNs.isReg r) = true then (if true = true then A else B) else (if (!HeapNs.isReg d) = true then A else B) := by
  cases e : HeapNs.isReg r with
  | false => exact iteT (iteT (h1 (.inl e)))
  | true =>
    refine iteF ?_
    cases e2 : HeapNs.isReg d with
    | false => exact iteT (h1 (.inr e2))
    | true => exact iteF (h2 (isReg_iff.mp e) (isReg_iff.mp e2))
theorem ok_cpy {f : Addr} {fd : FuncData} (F : Fun K "copy_value" "copy_value" st_copy_value f fd) (T : Txt K mg CO CH) (hReg : Has P w K mg base 1 "is_register" ["number"] spReg) :
    FnOk P w K mg base CX0 2 f fd ["heap", "r", "d"] (spCpy CO CH) := by
  refine F.ok sc_copy_value (fun vs H Q E h => ?_) (fun cdv A outer s H vs Q E hr h => ?_)
  · obtain ⟨N, s, r, d, rfl, _⟩ := h
    rfl
  · obtain ⟨N, s, r, d, rfl, R, g, q⟩ := h
    refine ⟨_, pss_cons (ps_if (PW.pt (pw_or (pt_not (pt_val (pe_h hReg hr rfl (pa_cons (pv 1) pa_nil)))) (pw_or1 (pt_not (pt_val (pe_h hReg hr rfl (pa_cons (pv 2) pa_nil))))))) (pss_one (ps_ret (pe_lst (pa_cons (pe_gint rfl T.g_OUT_OF_RANGE) pa_nil)))) pss_nil)
      (pss_cons (ps_asg (pe_ix ix_list (pe_fld (pv 0) rfl) (pv 2) (fun _ _ => rfl)) (pg_sub (pe_fld (pv 0) rfl) (pv 1) set_list)) (pss_one (ps_ret (pe_lst (pa_cons pe_int pa_nil))))), ?_⟩
    have bad : HeapNs.isReg r = false ∨ HeapNs.isReg d = false → HeapNs.step s (.copy r d) = (s, HeapNs.says (-1)) := fun h => if_pos h
    have good : r < 8 → d < 8 → HeapNs.step s (.copy r d) = (s.withReg r (s.reg d), HeapNs.says 0) := fun h1 h2 => if_neg fun z => by
      rw [isReg_iff.mpr h1, isReg_iff.mpr h2] at z
      exact absurd z (by decide)
    have A1 : ∀ h : HeapNs.isReg r = false ∨ HeapNs.isReg d = false, ∀ p, H p = none → Q (.ref p) (upd H p (.lst [V.int (-1)])) := fun h => q.still R (by rw [bad h]) (by rw [bad h]; rfl)
    refine ⟨_, rfl, r, rfl, _, rfl, ?_⟩
    refine ite2 (fun h => ?_) (fun h => ⟨_, rfl, d, rfl, _, rfl, ite2 (fun h' => ?_) (fun h' => ?_)⟩)
    · exact iteT ⟨(by show 1 ≤ sizeLine; decide), A1 (.inl (by simpa using h))⟩
    · exact ⟨(by show 1 ≤ sizeLine; decide), A1 (.inr (by simpa using h'))⟩
    · have hr8 : r < 8 := isReg_iff.mp (by simpa using h)
      have hd8 : d < 8 := isReg_iff.mp (by simpa using h')
      obtain ⟨dH, nx, hH, hnx⟩ := R.hp
      refine ⟨_, rfl, N.hp, CH, dH, _, _, rfl, hH, T.cl_Heap, T.n_Heap_registers, hpF_regs .., _, rfl, N.lr, _, _, _, rfl, rfl, SqL.of R.lr, atI_nat (reg_at g hd8), _, rfl, N.hp, CH, dH, _, _, rfl, hH, T.cl_Heap, T.n_Heap_registers, hpF_regs .., _, rfl, N.lr, _, _, r, rfl, rfl, R.lr, ixN_nat (by rw [List.length_map, g.rlen]; exact hr8), (by show 1 ≤ sizeLine; decide), fun p hp => ?_⟩
      have R2 := R.reg r (s.reg d)
      have es := good hr8 hd8
      refine q N _ p rfl ?_ ?_ (fresh_upd hp) ?_ ?_
      · rw [es]; exact R2.same (Same.upd hp)
      · rw [es]; exact (R.reg_keeps r _ _).same (Same.upd hp)
      · rw [es]; exact upd_same
      · rw [es]; exact R2.fresh hp
def spPut (CO CH : Addr) : Sp := fun vs H Q _ => ∃ (N : Nm) (s : HS) (r k d : Nat), vs = [.ref N.hp, .int r, .int k, .int d] ∧ Rep CO CH N s H ∧ Good s ∧ After CO CH N s H (.put r k d) Q
theorem refusal_cases {s : HS} (g : Good s) {r : Nat} (hr : r < 8) (k : Nat) : (HeapNs.object s r = none ∧ refusal s r k = some (-5)) ∨ (∃ c o, s.reg r = .obj c ∧ At s c o ∧ Kept s c o ∧ HeapNs.object s r = some (c, o) ∧ ((o.slots.length ≤ k ∧ refusal s r k = some (-4)) ∨ (k < o.slots.length ∧ refusal s r k = none))) := by
  rcases reg_cases g hr with ⟨_, c, o, er, ho, hk, hob⟩ | ⟨_, hob⟩
  · refine .inr ⟨c, o, er, ho, hk, hob, ?_⟩
    by_cases hl : o.slots.length ≤ k
    · refine .inl ⟨hl, ?_⟩
      unfold refusal
      rw [hob]
      exact if_pos hl
    · refine .inr ⟨Nat.lt_of_not_le hl, ?_⟩
      unfold refusal
      rw [hob]
      exact if_neg hl
  · refine .inl ⟨hob, ?_⟩
    unfold refusal
    rw [hob]
theorem ok_put {f : Addr} {fd : FuncData} (F : Fun K "put_into_slot" "put_into_slot" st_put_into_slot f fd) (T : Txt K mg CO CH) (hReg : Has P w K mg base 1 "is_register" ["number"] spReg) (hRef : Has P w K mg base 1 "slot_refusal" ["heap", "r", "k"] (spRef CO CH)) :
    FnOk P w K mg base CX0 2 f fd ["heap", "r", "k", "d"] (spPut CO CH) := by
  refine F.ok sc_put_into_slot (fun vs H Q E h => ?_) (fun cdv A outer s H vs Q E hr h => ?_)
  · obtain ⟨N, s, r, k, d, rfl, _⟩ := h
    rfl
  · obtain ⟨N, s, r, k, d, rfl, R, g, q⟩ := h
    refine ⟨_, pss_cons (ps_if (PW.pt (pw_or (pt_not (pt_val (pe_h hReg hr rfl (pa_cons (pv 1) pa_nil)))) (pw_or1 (pt_not (pt_val (pe_h hReg hr rfl (pa_cons (pv 3) pa_nil))))))) (pss_one (ps_ret (pe_lst (pa_cons (pe_gint rfl T.g_OUT_OF_RANGE) pa_nil)))) pss_nil)
      (pss_cons (ps_set (i := 4) sc_put_into_slot.nd rfl (Or.inl rfl) (pe_h hRef hr rfl (pa_cons (pv 0) (pa_cons (pv 1) (pa_cons (pv 2) pa_nil)))))
      (pss_cons (ps_if (pt_cmp (pc_notN (pv 4))) (pss_one (ps_ret (pe_lst (pa_cons (pv 4) pa_nil)))) pss_nil)
      (pss_cons (ps_asg (pe_ix ix_list (pe_fld (pv 0) rfl) (pv 3) (fun _ _ => rfl)) (pg_sub (pe_fld (pe_ix ix_list (pe_fld (pv 0) rfl) (pv 1) (fun _ _ => rfl)) rfl) (pv 2) set_list)) (pss_one (ps_ret (pe_lst (pa_cons pe_int pa_nil))))))), ?_⟩
    have bad : HeapNs.isReg r = false ∨ HeapNs.isReg d = false → HeapNs.step s (.put r k d) = (s, HeapNs.says (-1)) := fun h => if_pos h
    have good : r < 8 → d < 8 → HeapNs.step s (.put r k d) = (match HeapNs.object s r with
      | none => (s, HeapNs.says (-5))
      | some x => if x.2.slots.length ≤ k then (s, HeapNs.says (-4)) else (s.withCells (s.cells.set x.1 (some ⟨x.2.colour, x.2.slots.set k (s.reg d)⟩)), HeapNs.says 0)) := fun h1 h2 => if_neg fun z => by
      rw [isReg_iff.mpr h1, isReg_iff.mpr h2] at z
      exact absurd z (by decide)
    have A1 : ∀ h : HeapNs.isReg r = false ∨ HeapNs.isReg d = false, ∀ p, H p = none → Q (.ref p) (upd H p (.lst [V.int (-1)])) := fun h => q.still R (by rw [bad h]) (by rw [bad h]; rfl)
    refine ⟨_, rfl, r, rfl, _, rfl, ?_⟩
    refine ite2 (fun h => ?_) (fun h => ⟨_, rfl, d, rfl, _, rfl, ite2 (fun h' => ?_) (fun h' => ?_)⟩)
    · exact iteT ⟨(by show 1 ≤ sizeLine; decide), A1 (.inl (by simpa using h))⟩
    · exact ⟨(by show 1 ≤ sizeLine; decide), A1 (.inr (by simpa using h'))⟩
    · have hr8 : r < 8 := isReg_iff.mp (by simpa using h)
      have hd8 : d < 8 := isReg_iff.mp (by simpa using h')
      have es := good hr8 hd8
      obtain ⟨dH, nx, hH, hnx⟩ := R.hp
      refine ⟨_, rfl, _, rfl, _, rfl, N, s, r, k, rfl, R, g, hr8, ?_⟩
      rcases refusal_cases g hr8 k with ⟨e1, e2⟩ | ⟨c, o, er, ho, hk, hob, ⟨e1, e2⟩ | ⟨e1, e2⟩⟩
      · rw [e1] at es
        rw [e2]
        refine ⟨_, rfl, _, rfl, iteT ⟨_, rfl, (by show 1 ≤ sizeLine; decide), q.still R (by rw [es]) (by rw [es]; rfl)⟩⟩
      · rw [hob] at es
        dsimp only at es
        rw [if_pos e1] at es
        rw [e2]
        refine ⟨_, rfl, _, rfl, iteT ⟨_, rfl, (by show 1 ≤ sizeLine; decide), q.still R (by rw [es]) (by rw [es]; rfl)⟩⟩
      · rw [hob] at es
        dsimp only at es
        rw [if_neg (by omega)] at es
        rw [e2]
        obtain ⟨dx, vs, h1, h2, h3⟩ := R.ob c o ho
        have h3 := h3 hk
        subst h3
        refine ⟨_, rfl, _, rfl, iteF ⟨_, rfl, N.hp, CH, dH, _, _, rfl, hH, T.cl_Heap, T.n_Heap_registers, hpF_regs .., _, rfl, N.lr, _, _, _, rfl, rfl, SqL.of R.lr, atI_nat (reg_at g hd8),
          _, rfl, N.hp, CH, dH, _, _, rfl, hH, T.cl_Heap, T.n_Heap_registers, hpF_regs .., _, rfl, N.lr, _, _, _, rfl, rfl, SqL.of R.lr, atI_nat (reg_at g hr8), N.oa c, CO, dx, _, _, (by rw [er]; rfl), h1, T.cl_HeapObject, T.n_HeapObject_slots, obF_slots .., _, rfl, N.sa c, _, _, k, rfl, rfl, h2, ixN_nat (by rw [List.length_map]; exact e1), (by show 1 ≤ sizeLine; decide), fun p hp => ?_⟩⟩
        have R2 := R.put ho hk k (s.reg d)
        refine q N _ p rfl ?_ ?_ (fresh_upd hp) ?_ ?_
        · rw [es]; exact R2.same (Same.upd hp)
        · rw [es]; exact (Rep.put_keeps ho k _ _).same (Same.upd hp)
        · rw [es]; exact upd_same
        · rw [es]; exact R2.fresh hp
/-! least_free_cell -/
def freeV (s : HS) : V := match s.cells.findIdx? HeapNs.isFree with
  | some c => .int c
  | none => .non
def spFree (CO CH : Addr) : Sp := fun vs H Q _ => ∃ (N : Nm) (s : HS), vs = [.ref N.hp] ∧ Rep CO CH N s H ∧ Good s ∧ Q (freeV s) H
theorem ok_free {f : Addr} {fd : FuncData} (F : Fun K "least_free_cell" "least_free_cell" st_least_free_cell f fd) (T : Txt K mg CO CH) : FnOk P w K mg base CX0 1 f fd ["heap"] (spFree CO CH) := by
  refine F.ok sc_least_free_cell (fun vs H Q E h => ?_) (fun cdv A outer s H vs Q E hr h => ?_)
  · obtain ⟨N, s, rfl, _⟩ := h
    rfl
  · obtain ⟨N, s, rfl, R, g, q⟩ := h
    refine ⟨_, pss_cons (ps_for PassesOwn.never rfl (pi_range1 rfl T.b_range (pa_cons (pe_gint rfl T.g_CELL_COUNT) pa_nil)) (pg_name (i := 1) sc_least_free_cell.nd rfl (Or.inl rfl))
      (pss_one (ps_if (pt_cmp (pc_isN (pe_ix ix_list (pe_fld (pv 0) rfl) (pv 1) (fun _ _ => rfl)))) (pss_one (ps_ret (pv 1))) pss_nil)))
      (pss_one (ps_ret pe_non)), ?_⟩
    obtain ⟨dH, nx, hH, hnx⟩ := R.hp
    obtain ⟨xs, hx1, hx2, hx3⟩ := R.lc
    refine ⟨64, rfl, by decide, by decide, for_range (n := 64) (fun i σ H' => ∃ v, σ = [some (.ref N.hp), v] ∧ H' = H ∧ ∀ c, c < i → ∃ o, At s c o) ⟨none, rfl, rfl, fun c hc => absurd hc (Nat.not_lt_zero c)⟩ ?_ ?_⟩
    · rintro i σ H' hi ⟨v, rfl, rfl, hb⟩
      have hi2 : i < s.cells.length := by rw [g.len]; exact hi
      have e0 : (0 : Int) + (i : Nat) = (i : Int) := Int.zero_add _
      have hx := hx3 i s.cells[i] (List.getElem?_eq_getElem hi2)
      refine ⟨_, rfl, N.hp, CH, dH, _, _, rfl, hH, T.cl_Heap, T.n_Heap_cells, hpF_cells .., _, rfl, N.lc, _, _, _, rfl, rfl, SqL.of hx1, at_of e0 hx, _, rfl, ?_⟩
      cases e : s.cells[i] with
      | none =>
        refine iteT ⟨_, rfl, ?_⟩
        have hf : s.cells.findIdx? HeapNs.isFree = some i := by
          rw [List.findIdx?_eq_some_iff_getElem]
          refine ⟨hi2, by rw [e]; rfl, fun j hj => ?_⟩
          obtain ⟨o, ho⟩ := hb j hj
          obtain ⟨h1, h2⟩ := List.getElem?_eq_some_iff.mp ho
          rw [h2]
          exact Bool.false_ne_true
        unfold freeV at q
        rw [hf] at q
        show Q (.int (0 + (i : Nat))) H'
        rw [e0]
        exact q
      | some o =>
        refine iteF ⟨_, rfl, rfl, fun c hc => ?_⟩
        by_cases hci : c = i
        · subst hci
          exact ⟨o, by rw [At, List.getElem?_eq_getElem hi2, e]⟩
        · exact hb c (by omega)
    · rintro σ H' ⟨v, rfl, rfl, hb⟩
      have hf : s.cells.findIdx? HeapNs.isFree = none := by
        rw [List.findIdx?_eq_none_iff]
        intro x m
        obtain ⟨j, hj⟩ := List.getElem?_of_mem m
        have hl := (List.getElem?_eq_some_iff.mp hj).1
        obtain ⟨o, ho⟩ := hb j (by rw [g.len] at hl; exact hl)
        rw [At, hj] at ho
        have := Option.some.inj ho
        subst this
        rfl
      unfold freeV at q
      rw [hf] at q
      exact q
end
end Sw

end
section
set_option Elab.async false
set_option linter.all false
set_option maxRecDepth 100000
set_option maxHeartbeats 2000000
namespace Sw
open PySem PySem.Spec PyProof.Rows L2
open HeapNs (Val)
open PySem.W (Codec)
theorem shade_white {s : HS} {c : Nat} {o : OB} (h : At s c o) (e : o.colour = 0) : HeapNs.shade s.cells (.obj c) = s.cells.set c (some ⟨1, o.slots⟩) := by
  show HeapNs.shadeCell s.cells c = _
  unfold HeapNs.shadeCell
  rw [getD_of h]
  exact if_pos e
theorem shade_not {s : HS} {c : Nat} {o : OB} (h : At s c o) (e : o.colour ≠ 0) : HeapNs.shade s.cells (.obj c) = s.cells := by
  show HeapNs.shadeCell s.cells c = _
  unfold HeapNs.shadeCell
  rw [getD_of h]
  exact if_neg e
theorem int_dec {i j : Int} (h : decide (V.int i = V.int j) = true) : i = j := by
  have := of_decide_eq_true h
  injection this
theorem int_dec' {i j : Int} (h : ¬ decide (V.int i = V.int j) = true) : i ≠ j := fun e => h (by rw [e]; exact decide_eq_true rfl)
/-- the phase changed -/
theorem Rep.inPhase {CO CH : Addr} {N : Nm} {s : HS} {H : Hp} (R : Rep CO CH N s H) {p a nx : Nat} {dH : Addr} (hn : p = 2 → nx = a) (hk : ∀ c o, At s c o → Kept (s.inPhase p a) c o → Kept s c o) :
    Rep CO CH N (s.inPhase p a) (upd H N.hp (.ins CH dH (hpF p nx N.lc N.lr))) := by
  obtain ⟨n1, n2, n3⟩ := R.hp_ne
  obtain ⟨xs, h2, h3, h4⟩ := R.lc
  refine R.change (s' := s.inPhase p a) rfl ⟨dH, nx, upd_same, hn⟩ ⟨xs, ?_, h3, h4⟩ ?_ fun c o h => ?_
  · rw [upd_ne n1.symm]; exact h2
  · rw [upd_ne n2.symm]
  · have h : At s c o := h
    obtain ⟨dx, vs, g1, _⟩ := R.ob c o h
    exact ⟨o, h, rfl, hk c o h, ⟨dx, by rw [upd_ne (R.oa_hp h)]; exact g1⟩, by rw [upd_ne (n3 c o h).symm]⟩
section
variable {P : Program} {w : World} {K : PySem.W.Frag} {mg : Str → Option Value} {base : Heap} {CO CH : Addr}
def spShade (CO CH : Addr) : Sp := fun vs H Q _ => ∃ (N : Nm) (s : HS) (v : Val), vs = [valV N.oa v] ∧ Rep CO CH N s H ∧ s.phase ≠ 2 ∧ (∀ c, v = .obj c → ∃ o, At s c o) ∧ ∀ H', Rep CO CH N (s.withCells (HeapNs.shade s.cells v)) H' → (∀ b, ¬ Foot N s b → H' b = H b) → Q .non H'
theorem ok_shade {f : Addr} {fd : FuncData} (F : Fun K "shade" "shade" st_shade f fd) (T : Txt K mg CO CH) : FnOk P w K mg base CX0 1 f fd ["value"] (spShade CO CH) := by
  refine F.ok sc_shade (fun vs H Q E h => ?_) (fun cdv A outer s H vs Q E hr h => ?_)
  · obtain ⟨N, s, v, rfl, _⟩ := h
    rfl
  · obtain ⟨N, s, v, rfl, R, ph, hv, q⟩ := h
    refine ⟨_, pss_one (ps_if (PW.pt (pw_and (pt_val (pe_callB call_isi (by rfl) T.b_isinstance boot_isi (pa_cons (pv 0) (pa_cons (pe_glob (v := .ref CO) rfl T.mg_HeapObject rfl) pa_nil)))) (pw_and1 (pt_cmpR op_eq (pe_fld (pv 0) rfl) (pe_gint rfl T.g_WHITE) (nomark _)))))
      (pss_one (ps_fld (pv 0) (pe_gint rfl T.g_GREY) rfl)) pss_nil), ?_⟩
    obtain ⟨t, ty, kt⟩ := ty_val T R hv
    cases v with
    | none_ => exact ⟨_, rfl, _, t, _, CO, rfl, ty, kt, _, rfl, iteF (iteF (q H R fun _ _ => rfl))⟩
    | num z => exact ⟨_, rfl, _, t, _, CO, rfl, ty, kt, _, rfl, iteF (iteF (q H R fun _ _ => rfl))⟩
    | obj c =>
      obtain ⟨o, ho⟩ := hv c rfl
      obtain ⟨dx, vs, h1, h2, h3⟩ := R.ob c o ho
      refine ⟨_, rfl, _, t, _, CO, rfl, ty, kt, _, rfl, iteT ⟨_, rfl, N.oa c, CO, dx, _, _, rfl, h1, T.cl_HeapObject, T.n_HeapObject_colour, obF_colour .., rfl, _, rfl, ite2 (fun h => ?_) fun h => ?_⟩⟩
      · have e : o.colour = 0 := by have := int_dec h; omega
        refine ⟨_, rfl, N.oa c, CO, dx, _, rfl, h1, T.cl_HeapObject, T.n_HeapObject_colour, by show 3 < 1000; decide, ?_⟩
        refine q _ ?_ (Rep.colour_out ho _)
        rw [shade_white ho e]
        exact R.colour ho fun _ => .inl ph
      · have e : o.colour ≠ 0 := fun z => int_dec' h (by omega)
        refine q H ?_ fun _ _ => rfl
        rw [shade_not ho e]
        exact R
def spGot (CO CH : Addr) : Sp := fun vs H Q _ => ∃ (N : Nm) (s : HS) (v : Val), vs = [.ref N.hp, valV N.oa v] ∧ Rep CO CH N s H ∧ (∀ c, v = .obj c → ∃ o, At s c o) ∧ ∀ H', Rep CO CH N (if s.phase = 1 then s.withCells (HeapNs.shade s.cells v) else s) H' → (∀ b, ¬ Foot N s b → H' b = H b) → Q .non H'
theorem ok_got {f : Addr} {fd : FuncData} (F : Fun K "shade_got" "shade_got" st_shade_got f fd) (T : Txt K mg CO CH) (hS : Has P w K mg base 1 "shade" ["value"] (spShade CO CH)) : FnOk P w K mg base CX0 2 f fd ["heap", "value"] (spGot CO CH) := by
  refine F.ok sc_shade_got (fun vs H Q E h => ?_) (fun cdv A outer s H vs Q E hr h => ?_)
  · obtain ⟨N, s, v, rfl, _⟩ := h
    rfl
  · obtain ⟨N, s, v, rfl, R, hv, q⟩ := h
    refine ⟨_, pss_one (ps_if (pt_cmpR op_eq (pe_fld (pv 0) rfl) (pe_gint rfl T.g_MARKING) (nomark _)) (pss_one (ps_expr (pe_h hS hr rfl (pa_cons (pv 1) pa_nil)))) pss_nil), ?_⟩
    obtain ⟨dH, nx, hH, hnx⟩ := R.hp
    refine ⟨_, rfl, N.hp, CH, dH, _, _, rfl, hH, T.cl_Heap, T.n_Heap_phase, hpF_phase .., rfl, _, rfl, ite2 (fun h => ?_) fun h => ?_⟩
    · have e : s.phase = 1 := by have := int_dec h; omega
      rw [if_pos e] at q
      exact ⟨_, rfl, N, s, v, rfl, R, by omega, hv, q⟩
    · have e : s.phase ≠ 1 := fun z => int_dec' h (by omega)
      rw [if_neg e] at q
      exact q H R fun _ _ => rfl
def spBirth (CO CH : Addr) : Sp := fun vs H Q _ => ∃ (N : Nm) (s : HS) (c : Nat), vs = [.ref N.hp, .int c] ∧ Rep CO CH N s H ∧ Q (.int (s.newColour c : Nat)) H
theorem ok_birth {f : Addr} {fd : FuncData} (F : Fun K "birth_colour" "birth_colour" st_birth_colour f fd) (T : Txt K mg CO CH) : FnOk P w K mg base CX0 1 f fd ["heap", "cell"] (spBirth CO CH) := by
  refine F.ok sc_birth_colour (fun vs H Q E h => ?_) (fun cdv A outer s H vs Q E hr h => ?_)
  · obtain ⟨N, s, c, rfl, _⟩ := h
    rfl
  · obtain ⟨N, s, c, rfl, R, q⟩ := h
    refine ⟨_, pss_cons (ps_if (pt_cmpR op_eq (pe_fld (pv 0) rfl) (pe_gint rfl T.g_MARKING) (nomark _)) (pss_one (ps_ret (pe_gint rfl T.g_BLACK))) pss_nil)
      (pss_cons (ps_if (PW.pt (pw_and (pt_cmpR op_eq (pe_fld (pv 0) rfl) (pe_gint rfl T.g_SWEEPING) (nomark _)) (pw_and1 (pt_cmpR op_ge (pv 1) (pe_fld (pv 0) rfl) (nomark _))))) (pss_one (ps_ret (pe_gint rfl T.g_BLACK))) pss_nil)
      (pss_one (ps_ret (pe_gint rfl T.g_WHITE)))), ?_⟩
    obtain ⟨dH, nx, hH, hnx⟩ := R.hp
    unfold HeapNs.Heap.newColour at q
    refine ⟨_, rfl, N.hp, CH, dH, _, _, rfl, hH, T.cl_Heap, T.n_Heap_phase, hpF_phase .., rfl, _, rfl, ite2 (fun h => ?_) fun h => ?_⟩
    · have e : s.phase = 1 := by have := int_dec h; omega
      rw [if_pos e] at q
      exact q
    · have e : s.phase ≠ 1 := fun z => int_dec' h (by omega)
      rw [if_neg e] at q
      refine ⟨_, rfl, N.hp, CH, dH, _, _, rfl, hH, T.cl_Heap, T.n_Heap_phase, hpF_phase .., rfl, _, rfl, ite2 (fun h => ?_) fun h => iteF ?_⟩
      · have e2 : s.phase = 2 := by have := int_dec h; omega
        have en := hnx e2
        refine ⟨_, rfl, _, rfl, N.hp, CH, dH, _, _, rfl, hH, T.cl_Heap, T.n_Heap_next_cell, hpF_next .., _, _, rfl, rfl, _, rfl, ite2 (fun h => ?_) fun h => ?_⟩
        · have : s.at_ ≤ c := by have := of_decide_eq_true h; omega
          rw [if_pos ⟨e2, this⟩] at q
          exact q
        · have : ¬ s.at_ ≤ c := fun z => h (decide_eq_true (by omega))
          rw [if_neg fun z => this z.2] at q
          exact q
      · have e2 : s.phase ≠ 2 := fun z => int_dec' h (by omega)
        rw [if_neg fun z => e2 z.1] at q
        exact q
def spPhase (CO CH : Addr) : Sp := fun vs H Q _ => ∃ (N : Nm) (s : HS), vs = [.ref N.hp] ∧ Rep CO CH N s H ∧ Good s ∧ After CO CH N s H .phase Q
theorem ok_phase {f : Addr} {fd : FuncData} (F : Fun K "tell_phase" "tell_phase" st_tell_phase f fd) (T : Txt K mg CO CH) : FnOk P w K mg base CX0 1 f fd ["heap"] (spPhase CO CH) := by
  refine F.ok sc_tell_phase (fun vs H Q E h => ?_) (fun cdv A outer s H vs Q E hr h => ?_)
  · obtain ⟨N, s, rfl, _⟩ := h
    rfl
  · obtain ⟨N, s, rfl, R, g, q⟩ := h
    refine ⟨_, pss_one (ps_ret (pe_lst (pa_cons (pe_fld (pv 0) rfl) pa_nil))), ?_⟩
    obtain ⟨dH, nx, hH, hnx⟩ := R.hp
    exact ⟨_, rfl, N.hp, CH, dH, _, _, rfl, hH, T.cl_Heap, T.n_Heap_phase, hpF_phase .., (by show 1 ≤ sizeLine; decide), q.still R rfl rfl⟩
end
end Sw

end
section
set_option Elab.async false
set_option linter.all false
set_option maxRecDepth 100000
set_option maxHeartbeats 2000000
namespace Sw
open PySem PySem.Spec PyProof.Rows L2
open HeapNs (Val)
open PySem.W (Codec)
/-- so many of the values shaded -/
def sh (s : HS) (vs : List Val) (i : Nat) : HS := s.withCells (HeapNs.shadeAll s.cells (vs.take i))
theorem sh_zero (s : HS) (vs : List Val) : sh s vs 0 = s := by
  unfold sh
  rw [List.take_zero]
  rfl
theorem sh_succ {s : HS} {vs : List Val} {i : Nat} {v : Val} (hv : vs[i]? = some v) : (sh s vs i).withCells (HeapNs.shade (sh s vs i).cells v) = sh s vs (i + 1) := by
  unfold sh
  rw [List.take_add_one, hv]
  show (s.withCells (HeapNs.shade (HeapNs.shadeAll s.cells (vs.take i)) v)) = s.withCells (HeapNs.shadeAll s.cells (vs.take i ++ [v]))
  unfold HeapNs.shadeAll
  rw [List.foldl_append]
  rfl
theorem sh_all (s : HS) (vs : List Val) : sh s vs vs.length = s.withCells (HeapNs.shadeAll s.cells vs) := by
  unfold sh
  rw [List.take_length]
theorem sh_up (s : HS) (vs : List Val) (i : Nat) : Up s.cells (sh s vs i).cells := shadeAll_up _ _
theorem sh_at {s : HS} {vs : List Val} {i c : Nat} {o : OB} (h : At s c o) : ∃ o', At (sh s vs i) c o' ∧ o'.slots = o.slots := by
  obtain ⟨o', h1, h2, _⟩ := (sh_up s vs i).fwd h
  exact ⟨o', h1, h2⟩
theorem sh_at' {s : HS} {vs : List Val} {i c : Nat} {o' : OB} (h : At (sh s vs i) c o') : ∃ o, At s c o ∧ o'.slots = o.slots := by
  obtain ⟨o, h1, h2, _⟩ := (sh_up s vs i).bwd h
  exact ⟨o, h1, h2⟩
theorem foot_at {N : Nm} {s s' : HS} {b : Addr} (f : ∀ c o', At s' c o' → ∃ o, At s c o) (h : Foot N s' b) : Foot N s b := by
  rcases h with h | h | h | ⟨c, o, ho, h⟩
  · exact .inl h
  · exact .inr (.inl h)
  · exact .inr (.inr (.inl h))
  · obtain ⟨p, hp⟩ := f c o ho
    exact .inr (.inr (.inr ⟨c, p, hp, h⟩))
theorem After.one {CO CH : Addr} {N N' : Nm} {s : HS} {H H' : Hp} {c : HeapNs.Call} {Q : VK} {s' : HS} {z : Int} (a : After CO CH N s H c Q) (es : HeapNs.step s c = (s', HeapNs.says z)) (en : N'.hp = N.hp) (R : Rep CO CH N' s' H') (kp : Keeps N s H N' s' H') (fr : ∀ p, H' p = none → H p = none) :
    ∀ p, H' p = none → Q (.ref p) (upd H' p (.lst [V.int z])) := fun p hp => by
  refine a N' _ p en ?_ ?_ (fr p hp) ?_ ?_
  · rw [es]; exact R.same (Same.upd hp)
  · rw [es]; exact kp.same (Same.upd hp)
  · rw [es]; exact upd_same
  · rw [es]; exact R.fresh hp
/-- what is free behind it was free before, where only what is taken up changed -/
theorem free_out {N : Nm} {s : HS} {H H' : Hp} (R' : ∀ b, Foot N s b → ∃ o, H' b = some o) (h : ∀ b, ¬ Foot N s b → H' b = H b) : ∀ p, H' p = none → H p = none := fun p hp => by
  by_cases f : Foot N s p
  · obtain ⟨o, e⟩ := R' p f
    rw [e] at hp
    cases hp
  · rw [← h p f]; exact hp
section
variable {P : Program} {w : World} {K : PySem.W.Frag} {mg : Str → Option Value} {base : Heap} {CO CH : Addr}
def spBegin (CO CH : Addr) : Sp := fun vs H Q _ => ∃ (N : Nm) (s : HS), vs = [.ref N.hp] ∧ Rep CO CH N s H ∧ Good s ∧ After CO CH N s H .begin_ Q
theorem ok_begin {f : Addr} {fd : FuncData} (F : Fun K "begin_round" "begin_round" st_begin_round f fd) (T : Txt K mg CO CH) (hS : Has P w K mg base 1 "shade" ["value"] (spShade CO CH)) : FnOk P w K mg base CX0 2 f fd ["heap"] (spBegin CO CH) := by
  refine F.ok sc_begin_round (fun vs H Q E h => ?_) (fun cdv A outer s H vs Q E hr h => ?_)
  · obtain ⟨N, s, rfl, _⟩ := h
    rfl
  · obtain ⟨N, s, rfl, R, g, q⟩ := h
    refine ⟨_, pss_cons (ps_if (pt_cmpR op_ne (pe_fld (pv 0) rfl) (pe_gint rfl T.g_IDLE) (nomark _)) (pss_one (ps_ret (pe_lst (pa_cons (pe_gint rfl T.g_NOT_IDLE) pa_nil)))) pss_nil)
      (pss_cons (ps_for PassesOwn.never rfl (pi_list (pe_fld (pv 0) rfl)) (pg_name (i := 1) sc_begin_round.nd rfl (Or.inl rfl)) (pss_one (ps_expr (pe_h hS hr rfl (pa_cons (pv 1) pa_nil)))))
      (pss_cons (ps_fld (pv 0) (pe_gint rfl T.g_MARKING) rfl) (pss_one (ps_ret (pe_lst (pa_cons pe_int pa_nil)))))), ?_⟩
    obtain ⟨dH, nx, hH, hnx⟩ := R.hp
    refine ⟨_, rfl, N.hp, CH, dH, _, _, rfl, hH, T.cl_Heap, T.n_Heap_phase, hpF_phase .., rfl, _, rfl, ?_⟩
    by_cases e : s.phase = 0
    rotate_left
    · rw [decide_eq_false (show ¬ V.int (s.phase : Nat) = V.int 0 by intro z; injection z with z; omega)]
      have es : HeapNs.step s .begin_ = (s, HeapNs.says (-3)) := if_pos e
      refine iteT ⟨(by show 1 ≤ sizeLine; decide), q.still R (by rw [es]) (by rw [es]; rfl)⟩
    · rw [decide_eq_true (show V.int (s.phase : Nat) = V.int 0 by rw [e]; rfl)]
      have es : HeapNs.step s .begin_ = (HeapNs.begun s, HeapNs.says 0) := if_neg fun z => z e
      refine iteF ?_
      refine ⟨_, rfl, N.hp, CH, dH, _, _, rfl, hH, T.cl_Heap, T.n_Heap_registers, hpF_regs .., N.lr, rfl, ⟨_, SqL.of R.lr⟩, for_list (xs := s.regs.map (valV N.oa)) (fun i σ H' => ∃ v, σ = [some (.ref N.hp), v] ∧ Rep CO CH N (sh s s.regs i) H' ∧ ∀ b, ¬ Foot N s b → H' b = H b) ⟨none, rfl, by rw [sh_zero]; exact R, fun _ _ => rfl⟩ ?_ ?_ ?_⟩
      · rintro i σ H' hi ⟨v, rfl, R', kp⟩
        exact SqL.of R'.lr
      · rintro i x σ H' hx ⟨v, rfl, R', kp⟩
        rw [List.getElem?_map] at hx
        obtain ⟨u, hu, rfl⟩ := Option.map_eq_some_iff.mp hx
        refine ⟨_, rfl, N, sh s s.regs i, u, rfl, R', ?_, fun c ec => ?_, fun H2 R2 kp2 => ⟨_, rfl, ?_, fun b nb => ?_⟩⟩
        · show s.phase ≠ 2
          omega
        · obtain ⟨o, ho, _⟩ := g.regs u (List.mem_of_getElem? hu) c ec
          obtain ⟨o', h', _⟩ := sh_at ho
          exact ⟨o', h'⟩
        · rw [← sh_succ hu]; exact R2
        · rw [kp2 b fun z => nb (foot_at (fun c o' z => let ⟨o, a, _⟩ := sh_at' z; ⟨o, a⟩) z)]
          exact kp b nb
      · rintro σ H' ⟨v, rfl, R', kp⟩
        rw [List.length_map, sh_all] at R'
        obtain ⟨dH', nx', hH', hnx'⟩ := R'.hp
        refine ⟨_, rfl, N.hp, CH, dH', _, rfl, hH', T.cl_Heap, T.n_Heap_phase, by show 4 < 1000; decide, ?_⟩
        have R2 : Rep CO CH N (HeapNs.begun s) (upd H' N.hp (.ins CH dH' (hpF 1 nx' N.lc N.lr))) := R'.inPhase (p := 1) (a := 0) (nx := nx') (fun z => by cases z) fun c o h _ => .inl (by show s.phase ≠ 2; omega)
        have at' : ∀ c o', At (HeapNs.begun s) c o' → ∃ o, At s c o := fun c o' h => by
          obtain ⟨o, a, _⟩ := (shadeAll_up s.regs s.cells).bwd h
          exact ⟨o, a⟩
        have out : ∀ b, ¬ Foot N s b → upd H' N.hp (.ins CH dH' (hpF 1 nx' N.lc N.lr)) b = H b := fun b nb => by
          rw [upd_ne fun z => nb (.inl z)]
          exact kp b nb
        have at2 : ∀ c o, At s c o → ∃ o', At (HeapNs.begun s) c o' := fun c o h => by
          obtain ⟨o', a, _⟩ := (shadeAll_up s.regs s.cells).fwd h
          exact ⟨o', a⟩
        exact ⟨(by show 1 ≤ sizeLine; decide), q.one es rfl R2 (Keeps.of out at') (free_out (fun b fb => R2.foot (foot_at at2 fb)) out)⟩
/-! least_grey -/
def greyV (N : Nm) (s : HS) : V := match s.cells.findIdx? HeapNs.isGrey with
  | some c => .ref (N.oa c)
  | none => .non
def spGrey (CO CH : Addr) : Sp := fun vs H Q _ => ∃ (N : Nm) (s : HS), vs = [.ref N.hp] ∧ Rep CO CH N s H ∧ Good s ∧ Q (greyV N s) H
theorem ok_grey {f : Addr} {fd : FuncData} (F : Fun K "least_grey" "least_grey" st_least_grey f fd) (T : Txt K mg CO CH) : FnOk P w K mg base CX0 1 f fd ["heap"] (spGrey CO CH) := by
  refine F.ok sc_least_grey (fun vs H Q E h => ?_) (fun cdv A outer s H vs Q E hr h => ?_)
  · obtain ⟨N, s, rfl, _⟩ := h
    rfl
  · obtain ⟨N, s, rfl, R, g, q⟩ := h
    refine ⟨_, pss_cons (ps_for PassesOwn.never rfl (pi_list (pe_fld (pv 0) rfl)) (pg_name (i := 1) sc_least_grey.nd rfl (Or.inl rfl))
      (pss_one (ps_if (PW.pt (pw_and (pt_cmp (pc_notN (pv 1))) (pw_and1 (pt_cmpR op_eq (pe_fld (pv 1) rfl) (pe_gint rfl T.g_GREY) (nomark _))))) (pss_one (ps_ret (pv 1))) pss_nil)))
      (pss_one (ps_ret pe_non)), ?_⟩
    obtain ⟨dH, nx, hH, hnx⟩ := R.hp
    obtain ⟨xs, hx1, hx2, hx3⟩ := R.lc
    refine ⟨_, rfl, N.hp, CH, dH, _, _, rfl, hH, T.cl_Heap, T.n_Heap_cells, hpF_cells .., N.lc, rfl, ⟨_, SqL.of hx1⟩, for_list (xs := xs) (fun i σ H' => ∃ v, σ = [some (.ref N.hp), v] ∧ H' = H ∧ ∀ (c : Nat) x, c < i → s.cells[c]? = some x → HeapNs.isGrey x = false) ⟨none, rfl, rfl, fun c x hc => absurd hc (Nat.not_lt_zero c)⟩ ?_ ?_ ?_⟩
    · rintro i σ H' hi ⟨v, rfl, rfl, _⟩
      exact SqL.of hx1
    · rintro i x σ H' hx ⟨v, rfl, rfl, hb⟩
      have hi : i < 64 := by rw [← hx2]; exact (List.getElem?_eq_some_iff.mp hx).1
      have hi2 : i < s.cells.length := by rw [g.len]; exact hi
      have e1 : s.cells[i]? = some s.cells[i] := List.getElem?_eq_getElem hi2
      have hx' := hx3 i _ e1
      rw [hx] at hx'
      have ex := Option.some.inj hx'
      subst ex
      have nxt : HeapNs.isGrey s.cells[i] = false → ∀ (c : Nat) x, c < i + 1 → s.cells[c]? = some x → HeapNs.isGrey x = false := fun hg c x hc hcx => by
        by_cases hci : c = i
        · subst hci
          rw [e1] at hcx
          rw [← Option.some.inj hcx]; exact hg
        · exact hb c x (by omega) hcx
      cases e : s.cells[i] with
      | none =>
        rw [e] at nxt
        exact ⟨_, rfl, _, rfl, iteF (iteF ⟨_, rfl, rfl, nxt rfl⟩)⟩
      | some o =>
        rw [e] at nxt e1
        obtain ⟨dx, vs, h1, h2, h3⟩ := R.ob i o e1
        refine ⟨_, rfl, _, rfl, iteT ⟨_, rfl, N.oa i, CO, dx, _, _, rfl, h1, T.cl_HeapObject, T.n_HeapObject_colour, obF_colour .., rfl, _, rfl, ite2 (fun h => ?_) fun h => ?_⟩⟩
        · have e2 : o.colour = 1 := by have := int_dec h; omega
          refine ⟨_, rfl, ?_⟩
          have hf : s.cells.findIdx? HeapNs.isGrey = some i := by
            rw [List.findIdx?_eq_some_iff_getElem]
            refine ⟨hi2, by rw [e]; show (o.colour == 1) = true; rw [e2]; rfl, fun j hj => ?_⟩
            rw [hb j _ hj (List.getElem?_eq_getElem (by omega))]
            exact Bool.false_ne_true
          unfold greyV at q
          rw [hf] at q
          exact q
        · have e2 : o.colour ≠ 1 := fun z => int_dec' h (by omega)
          exact ⟨_, rfl, rfl, nxt (by show (o.colour == 1) = false; exact beq_eq_false_iff_ne.mpr e2)⟩
    · rintro σ H' ⟨v, rfl, rfl, hb⟩
      have hf : s.cells.findIdx? HeapNs.isGrey = none := by
        rw [List.findIdx?_eq_none_iff]
        intro x m
        obtain ⟨j, hj⟩ := List.getElem?_of_mem m
        have hl := (List.getElem?_eq_some_iff.mp hj).1
        exact hb j x (by rw [hx2, ← g.len]; exact hl) hj
      unfold greyV at q
      rw [hf] at q
      exact q
end
end Sw

end
section
set_option Elab.async false
set_option linter.all false
set_option maxRecDepth 100000
set_option maxHeartbeats 2000000
namespace Sw
open PySem PySem.Spec PyProof.Rows L2
open HeapNs (Val)
open PySem.W (Codec)
theorem free_upd {H : Hp} {a p : Addr} {o : HO} (h : upd H a o p = none) : H p = none := fresh_upd h
section
variable {P : Program} {w : World} {K : PySem.W.Frag} {mg : Str → Option Value} {base : Heap} {CO CH : Addr}
def spMark (CO CH : Addr) : Sp := fun vs H Q _ => ∃ (N : Nm) (s : HS), vs = [.ref N.hp] ∧ Rep CO CH N s H ∧ Good s ∧ s.phase = 1 ∧ ∀ H', Rep CO CH N (HeapNs.markStep s) H' → Keeps N s H N (HeapNs.markStep s) H' → (∀ b, H' b = none → H b = none) → Q .non H'
theorem ok_mark {f : Addr} {fd : FuncData} (F : Fun K "mark_step" "mark_step" st_mark_step f fd) (T : Txt K mg CO CH) (hS : Has P w K mg base 1 "shade" ["value"] (spShade CO CH)) (hG : Has P w K mg base 1 "least_grey" ["heap"] (spGrey CO CH)) :
    FnOk P w K mg base CX0 2 f fd ["heap"] (spMark CO CH) := by
  refine F.ok sc_mark_step (fun vs H Q E h => ?_) (fun cdv A outer s H vs Q E hr h => ?_)
  · obtain ⟨N, s, rfl, _⟩ := h
    rfl
  · obtain ⟨N, s, rfl, R, g, ph, q⟩ := h
    refine ⟨_, pss_cons (ps_set (i := 1) sc_mark_step.nd rfl (Or.inl rfl) (pe_h hG hr rfl (pa_cons (pv 0) pa_nil)))
      (pss_cons (ps_if (pt_cmp (pc_isN (pv 1))) (pss_cons (ps_fld (pv 0) (pe_gint rfl T.g_SWEEPING) rfl) (pss_cons (ps_fld (pv 0) pe_int rfl) (pss_one ps_retN))) pss_nil)
      (pss_cons (ps_fld (pv 1) (pe_gint rfl T.g_BLACK) rfl)
      (pss_one (ps_for PassesOwn.never rfl (pi_list (pe_fld (pv 1) rfl)) (pg_name (i := 2) sc_mark_step.nd rfl (Or.inl rfl)) (pss_one (ps_expr (pe_h hS hr rfl (pa_cons (pv 2) pa_nil)))))))), ?_⟩
    obtain ⟨dH, nx, hH, hnx⟩ := R.hp
    refine ⟨_, rfl, N, s, rfl, R, g, ?_⟩
    unfold HeapNs.markStep at q
    unfold greyV
    cases ef : s.cells.findIdx? HeapNs.isGrey with
    | none =>
      rw [ef] at q
      dsimp only at q ⊢
      refine ⟨_, rfl, _, rfl, iteT ⟨_, rfl, N.hp, CH, dH, _, rfl, hH, T.cl_Heap, T.n_Heap_phase, by show 4 < 1000; decide, _, rfl, N.hp, CH, dH, _, rfl, upd_same, T.cl_Heap, T.n_Heap_next_cell, by show 4 < 1000; decide, ?_⟩⟩
      have eH : upd (upd H N.hp (.ins CH dH (putF "phase" (.int 2) (hpF s.phase nx N.lc N.lr)))) N.hp (.ins CH dH (putF "next_cell" (.int 0) (putF "phase" (.int 2) (hpF s.phase nx N.lc N.lr)))) = upd H N.hp (.ins CH dH (hpF 2 0 N.lc N.lr)) := by
        rw [upd_upd]
        rfl
      show Q .non (upd (upd H N.hp (.ins CH dH (putF "phase" (.int 2) (hpF s.phase nx N.lc N.lr)))) N.hp (.ins CH dH (putF "next_cell" (.int 0) (putF "phase" (.int 2) (hpF s.phase nx N.lc N.lr)))))
      rw [eH]
      refine q _ (R.inPhase (p := 2) (a := 0) (nx := 0) (fun _ => rfl) fun c o h _ => .inl (by omega)) (Keeps.of (fun b nb => upd_ne fun z => nb (.inl z)) fun c o h => ⟨o, h⟩) fun b hb => fresh_upd hb
    | some c =>
      rw [ef] at q
      obtain ⟨x, hx, gx⟩ := findIdx_get ef
      cases x with
      | none => cases gx
      | some o =>
        have ho : At s c o := hx
        dsimp only at q ⊢
        rw [cell_eq hx] at q
        dsimp only at q
        obtain ⟨dx, vs, h1, h2, h3⟩ := R.ob c o ho
        refine ⟨_, rfl, _, rfl, iteF ⟨_, rfl, N.oa c, CO, dx, _, rfl, h1, T.cl_HeapObject, T.n_HeapObject_colour, by show 3 < 1000; decide, ?_⟩⟩
        have R1 : Rep CO CH N (s.withCells (s.cells.set c (some ⟨2, o.slots⟩))) (upd H (N.oa c) (.ins CO dx (obF 2 c (N.sa c)))) := R.colour ho fun _ => .inl (by omega)
        generalize es1 : s.withCells (s.cells.set c (some ⟨2, o.slots⟩)) = s1 at R1
        have p1 : s1.phase = 1 := by rw [← es1]; exact ph
        have a1 : At s1 c ⟨2, o.slots⟩ := by
          rw [← es1]
          exact List.getElem?_set_self ho.lt
        have back : ∀ d p, At s1 d p → ∃ p', At s d p' := fun d p h => by
          rw [← es1] at h
          rcases at_set h with ⟨rfl, _⟩ | ⟨_, h⟩
          · exact ⟨o, ho⟩
          · exact ⟨p, h⟩
        have fwd : ∀ d p, At s d p → ∃ p', At s1 d p' := fun d p h => by
          by_cases hd : d = c
          · subst hd
            exact ⟨_, a1⟩
          · refine ⟨p, ?_⟩
            rw [← es1]
            exact (List.getElem?_set_ne fun z => hd z.symm).trans h
        have lst : ∀ i H', Rep CO CH N (sh s1 o.slots i) H' → H' (N.sa c) = some (.lst (o.slots.map (valV N.oa))) := fun i H' R' => by
          obtain ⟨o', h', e'⟩ := sh_at (vs := o.slots) (i := i) a1
          obtain ⟨_, ws, _, g2, g3⟩ := R'.ob c o' h'
          rw [g2, g3 (.inl (by show s1.phase ≠ 2; omega)), e']
        obtain ⟨dx1, vs1, k1, k2, k3⟩ := R1.ob c _ a1
        refine ⟨_, rfl, N.oa c, CO, dx1, _, _, rfl, k1, T.cl_HeapObject, T.n_HeapObject_slots, obF_slots .., N.sa c, rfl, ⟨_, SqL.of k2⟩, for_list (xs := o.slots.map (valV N.oa)) (fun i σ H' => ∃ v, σ = [some (.ref N.hp), some (.ref (N.oa c)), v] ∧ Rep CO CH N (sh s1 o.slots i) H' ∧ ∀ b, ¬ Foot N s b → H' b = H b) ⟨none, rfl, by rw [sh_zero]; exact R1, fun b nb => ?_⟩ ?_ ?_ ?_⟩
        · exact Rep.colour_out ho _ b nb
        · rintro i σ H' hi ⟨v, rfl, R', kp⟩
          exact SqL.of (lst i H' R')
        · rintro i x σ H' hx ⟨v, rfl, R', kp⟩
          rw [List.getElem?_map] at hx
          obtain ⟨u, hu, rfl⟩ := Option.map_eq_some_iff.mp hx
          refine ⟨_, rfl, N, sh s1 o.slots i, u, rfl, R', ?_, fun d ed => ?_, fun H2 R2 kp2 => ⟨_, rfl, ?_, fun b nb => ?_⟩⟩
          · show s1.phase ≠ 2
            omega
          · obtain ⟨p, hp, _⟩ := g.slots c o ho (.inl (by omega)) u (List.mem_of_getElem? hu) d ed
            obtain ⟨p', hp'⟩ := fwd d p hp
            obtain ⟨o', h', _⟩ := sh_at hp'
            exact ⟨o', h'⟩
          · rw [← sh_succ hu]; exact R2
          · rw [kp2 b fun z => nb (foot_at (fun d p z => let ⟨p1, a, _⟩ := sh_at' z; back d p1 a) z)]
            exact kp b nb
        · rintro σ H' ⟨v, rfl, R', kp⟩
          rw [List.length_map, sh_all] at R'
          have e : s1.withCells (HeapNs.shadeAll s1.cells o.slots) = s.withCells (HeapNs.shadeAll (s.cells.set c (some ⟨2, o.slots⟩)) o.slots) := by
            rw [← es1]
            rfl
          have up := shadeAll_up o.slots s1.cells
          refine q H' (by rw [← e]; exact R') ?_ ?_
          · rw [← e]
            exact Keeps.of kp fun d p h => let ⟨p1, a, _⟩ := up.bwd h; back d p1 a
          · refine free_out (s := s) (fun b fb => R'.foot (foot_at (fun d p h => ?_) fb)) kp
            obtain ⟨p1, a1⟩ := fwd d p h
            obtain ⟨p2, a2, _⟩ := up.fwd a1
            exact ⟨p2, a2⟩
end
end Sw

end
section
set_option Elab.async false
set_option linter.all false
set_option maxRecDepth 100000
set_option maxHeartbeats 2000000
namespace Sw
open PySem PySem.Spec PyProof.Rows L2
open HeapNs (Val)
open PySem.W (Codec)
theorem sweep_eq {s : HS} (hl : s.at_ < 64) : HeapNs.sweepStep s = (s.withCells (s.cells.set s.at_ (HeapNs.swept (s.cell s.at_)))).inPhase 2 (s.at_ + 1) := if_neg (by show ¬ 64 ≤ s.at_; omega)
theorem sweep_back {s : HS} (hl : s.at_ < 64) {c : Nat} {o' : OB} (h : At (HeapNs.sweepStep s) c o') : ∃ o, At s c o ∧ o'.slots = o.slots ∧ ((c = s.at_ ∧ o.colour ≠ 0 ∧ o' = ⟨0, o.slots⟩) ∨ (c ≠ s.at_ ∧ o' = o)) := by
  rw [sweep_eq hl] at h
  have h : (s.cells.set s.at_ (HeapNs.swept (s.cell s.at_)))[c]? = some (some o') := h
  rcases at_set h with ⟨rfl, e⟩ | ⟨hd, h⟩
  · cases ec : s.cell s.at_ with
    | none => rw [ec] at e; cases e
    | some o =>
      rw [ec] at e
      have e : (if o.colour = 0 then none else some (⟨0, o.slots⟩ : OB)) = some o' := e
      by_cases hw : o.colour = 0
      · rw [if_pos hw] at e; cases e
      · rw [if_neg hw] at e
        have e := Option.some.inj e
        exact ⟨o, cell_some ec, by rw [← e], .inl ⟨rfl, hw, e.symm⟩⟩
  · exact ⟨o', h, rfl, .inr ⟨hd, rfl⟩⟩
theorem Rep.sweep {CO CH : Addr} {N : Nm} {s : HS} {H H' : Hp} (R : Rep CO CH N s H) (g : Good s) (ph : s.phase = 2) (hl : s.at_ < 64) {xs : List V} (hxs : H N.lc = some (.lst xs))
    (hhp : ∃ dH, H' N.hp = some (.ins CH dH (hpF 2 (s.at_ + 1) N.lc N.lr))) (hlc : H' N.lc = some (.lst (xs.set s.at_ (cellV N.oa s.at_ (HeapNs.swept (s.cell s.at_))))))
    (hoa : ∀ o, At s s.at_ o → o.colour ≠ 0 → ∃ dx, H' (N.oa s.at_) = some (.ins CO dx (obF 0 s.at_ (N.sa s.at_))))
    (rest : ∀ b, b ≠ N.hp → b ≠ N.lc → (∀ o, At s s.at_ o → b ≠ N.oa s.at_) → H' b = H b) : Rep CO CH N (HeapNs.sweepStep s) H' := by
  obtain ⟨n1, n2, n3⟩ := R.hp_ne
  obtain ⟨dH, hH⟩ := hhp
  obtain ⟨ys, h2, h3, h4⟩ := R.lc
  rw [hxs] at h2
  have e := Option.some.inj h2
  injection e with e
  subst e
  refine R.change (s' := HeapNs.sweepStep s) (by rw [sweep_eq hl]; rfl) ⟨dH, s.at_ + 1, by rw [sweep_eq hl]; exact hH, fun _ => by rw [sweep_eq hl]; rfl⟩ ⟨_, hlc, by rw [List.length_set]; exact h3, fun c x e => ?_⟩ ?_ fun c o' h => ?_
  · rw [sweep_eq hl] at e
    have e : (s.cells.set s.at_ (HeapNs.swept (s.cell s.at_)))[c]? = some x := e
    by_cases hc : c = s.at_
    · subst hc
      rw [List.getElem?_set_self (by rw [g.len]; exact hl)] at e
      rw [List.getElem?_set_self (by rw [h3]; exact hl), Option.some.inj e]
    · rw [List.getElem?_set_ne fun z => hc z.symm] at e ⊢
      exact h4 c x e
  · exact rest _ n2.symm R.ncr.symm fun o ho => (R.oa_ne ho).2.1.symm
  · obtain ⟨o, ho, es, hh⟩ := sweep_back hl h
    refine ⟨o, ho, es, fun k => ?_, ?_, ?_⟩
    · rcases hh with ⟨_, hw, _⟩ | ⟨hc, rfl⟩
      · exact .inr (.inr hw)
      · have k : (HeapNs.sweepStep s).phase ≠ 2 ∨ c < (HeapNs.sweepStep s).at_ ∨ o'.colour ≠ 0 := k
        rw [sweep_eq hl] at k
        rcases k with k | k | k
        · exact absurd rfl k
        · have k : c < s.at_ + 1 := k
          exact .inr (.inl (by omega))
        · exact .inr (.inr k)
    · rcases hh with ⟨rfl, hw, rfl⟩ | ⟨hc, rfl⟩
      · exact hoa o ho hw
      · obtain ⟨dx, vs, g1, _⟩ := R.ob c o' ho
        refine ⟨dx, ?_⟩
        rw [rest _ (R.oa_hp ho) (R.oa_ne ho).1 fun p hp z => hc (R.oinj ho hp z)]
        exact g1
    · obtain ⟨dx, vs, _, g2, _⟩ := R.ob c o ho
      exact rest _ (n3 c o ho).symm (R.nc c o ho).1 fun p hp z => (R.oa_ne hp).2.2.1 c o ho z.symm
theorem set_same {α : Type} {l : List α} {i : Nat} {x : α} (h : l[i]? = some x) : l.set i x = l := by
  apply List.ext_getElem?
  intro j
  by_cases hj : j = i
  · subst hj
    rw [List.getElem?_set_self (List.getElem?_eq_some_iff.mp h).1, h]
  · rw [List.getElem?_set_ne fun z => hj z.symm]
section
variable {P : Program} {w : World} {K : PySem.W.Frag} {mg : Str → Option Value} {base : Heap} {CO CH : Addr}
def spSweep (CO CH : Addr) : Sp := fun vs H Q _ => ∃ (N : Nm) (s : HS), vs = [.ref N.hp] ∧ Rep CO CH N s H ∧ Good s ∧ s.phase = 2 ∧ ∀ H', Rep CO CH N (HeapNs.sweepStep s) H' → Keeps N s H N (HeapNs.sweepStep s) H' → (∀ b, H' b = none → H b = none) → Q .non H'
theorem ok_sweep {f : Addr} {fd : FuncData} (F : Fun K "sweep_step" "sweep_step" st_sweep_step f fd) (T : Txt K mg CO CH) :
    FnOk P w K mg base CX0 1 f fd ["heap"] (spSweep CO CH) := by
  refine F.ok sc_sweep_step (fun vs H Q E h => ?_) (fun cdv A outer s H vs Q E hr h => ?_)
  · obtain ⟨N, s, rfl, _⟩ := h
    rfl
  · obtain ⟨N, s, rfl, R, g, ph, q⟩ := h
    refine ⟨_, pss_cons (ps_if (pt_cmpR op_eq (pe_fld (pv 0) rfl) (pe_gint rfl T.g_CELL_COUNT) (nomark _)) (pss_cons (ps_fld (pv 0) (pe_gint rfl T.g_IDLE) rfl) (pss_one ps_retN)) pss_nil)
      (pss_cons (ps_set (i := 1) sc_sweep_step.nd rfl (Or.inl rfl) (pe_ix ix_list (pe_fld (pv 0) rfl) (pe_fld (pv 0) rfl) (fun _ _ => rfl)))
      (pss_cons (ps_if (pt_cmp (pc_notN (pv 1))) (pss_one (ps_if (pt_cmpR op_eq (pe_fld (pv 1) rfl) (pe_gint rfl T.g_WHITE) (nomark _)) (pss_one (ps_asg pe_non (pg_sub (pe_fld (pv 0) rfl) (pe_fld (pv 0) rfl) set_list))) (pss_one (ps_fld (pv 1) (pe_gint rfl T.g_WHITE) rfl)))) pss_nil)
      (pss_one (ps_fldaug (pv 0) pe_int in_add)))), ?_⟩
    obtain ⟨dH, nx, hH, hnx⟩ := R.hp
    have en := hnx ph
    subst en
    obtain ⟨xs, hx1, hx2, hx3⟩ := R.lc
    have n1 := R.hp_ne.1
    refine ⟨_, rfl, N.hp, CH, dH, _, _, rfl, hH, T.cl_Heap, T.n_Heap_next_cell, hpF_next .., rfl, _, rfl, ite2 (fun h => ?_) fun h => ?_⟩
    · have e : s.at_ = 64 := by have := int_dec h; omega
      have es : HeapNs.sweepStep s = s.inPhase 0 0 := if_pos (by rw [e]; exact Nat.le_refl _)
      rw [es] at q
      refine ⟨_, rfl, N.hp, CH, dH, _, rfl, hH, T.cl_Heap, T.n_Heap_phase, by show 4 < 1000; decide, ?_⟩
      refine q _ (R.inPhase (p := 0) (a := 0) (nx := s.at_) (fun z => by cases z) fun c o h _ => .inr (.inl ?_)) (Keeps.of (fun b nb => upd_ne fun z => nb (.inl z)) fun c o h => ⟨o, h⟩) fun b hb => fresh_upd hb
      have := h.lt
      rw [g.len] at this
      omega
    · have hl : s.at_ < 64 := by
        have h1 : s.at_ ≠ 64 := fun z => int_dec' h (by omega)
        have h2 := g.atb
        omega
      have hi : s.cells[s.at_]? = some (s.cell s.at_) := by
        have h2 : s.at_ < s.cells.length := by rw [g.len]; exact hl
        rw [List.getElem?_eq_getElem h2]
        exact congrArg some (cell_eq (List.getElem?_eq_getElem h2)).symm
      have hx := hx3 _ _ hi
      refine ⟨_, rfl, N.hp, CH, dH, _, _, rfl, hH, T.cl_Heap, T.n_Heap_cells, hpF_cells .., _, rfl, N.hp, CH, dH, _, _, rfl, hH, T.cl_Heap, T.n_Heap_next_cell, hpF_next .., N.lc, _, _, _, rfl, rfl, SqL.of hx1, atI_nat hx, ?_⟩
      have bk : ∀ c o', At (HeapNs.sweepStep s) c o' → ∃ o, At s c o := fun c o' h => let ⟨o, a, _⟩ := sweep_back hl h; ⟨o, a⟩
      have e1 : (s.at_ : Int) + 1 = ((s.at_ + 1 : Nat) : Int) := rfl
      cases ec : s.cell s.at_ with
      | none =>
        rw [ec] at hx
        refine ⟨_, rfl, _, rfl, iteF ⟨_, rfl, N.hp, CH, dH, _, _, rfl, hH, T.cl_Heap, T.n_Heap_next_cell, hpF_next .., _, _, rfl, rfl, dH, _, hH, by show 4 < 1000; decide, ?_⟩⟩
        have no : ∀ o, ¬ At s s.at_ o := fun o ho => by
          rw [At, hi, ec] at ho
          cases ho
        have sw : xs.set s.at_ (cellV N.oa s.at_ (HeapNs.swept (s.cell s.at_))) = xs := by
          rw [ec]
          exact set_same hx
        rw [ph, e1]
        refine q _ (R.sweep g ph hl hx1 ⟨dH, upd_same⟩ (by rw [upd_ne n1.symm, sw]; exact hx1) (fun o ho => (no o ho).elim) fun b b1 b2 b3 => upd_ne b1) (Keeps.of (fun b nb => upd_ne fun z => nb (.inl z)) bk) fun b hb => fresh_upd hb
      | some o =>
        have ho : At s s.at_ o := by rw [At, hi, ec]
        obtain ⟨dx, vs, h1, h2, h3⟩ := R.ob s.at_ o ho
        refine ⟨_, rfl, _, rfl, iteT ⟨_, rfl, N.oa s.at_, CO, dx, _, _, rfl, h1, T.cl_HeapObject, T.n_HeapObject_colour, obF_colour .., rfl, _, rfl, ite2 (fun h => ?_) fun h => ?_⟩⟩
        · have hw : o.colour = 0 := by have := int_dec h; omega
          refine ⟨_, rfl, N.hp, CH, dH, _, _, rfl, hH, T.cl_Heap, T.n_Heap_cells, hpF_cells .., _, rfl, N.hp, CH, dH, _, _, rfl, hH, T.cl_Heap, T.n_Heap_next_cell, hpF_next .., N.lc, xs, _, s.at_, rfl, rfl, hx1, ixN_nat (by rw [hx2]; exact hl), ?_⟩
          refine ⟨_, rfl, N.hp, CH, dH, _, _, rfl, by rw [upd_ne n1]; exact hH, T.cl_Heap, T.n_Heap_next_cell, hpF_next .., _, _, rfl, rfl, dH, _, by rw [upd_ne n1]; exact hH, by show 4 < 1000; decide, ?_⟩
          rw [ph, e1]
          refine q _ (R.sweep g ph hl hx1 ⟨dH, upd_same⟩ ?_ (fun p hp hne => ?_) fun b b1 b2 b3 => ?_) (Keeps.of (fun b nb => ?_) bk) fun b hb => fresh_upd (fresh_upd hb)
          · rw [upd_ne n1.symm, upd_same, ec]
            show some (HO.lst (xs.set s.at_ .non)) = some (HO.lst (xs.set s.at_ (cellV N.oa s.at_ (if o.colour = 0 then none else _))))
            rw [if_pos hw]
            rfl
          · rw [ho.inj hp] at hw
            exact absurd hw hne
          · rw [upd_ne b1, upd_ne b2]
          · rw [upd_ne fun z => nb (.inl z), upd_ne fun z => nb (.inr (.inl z))]
        · have hw : o.colour ≠ 0 := fun z => int_dec' h (by omega)
          have n5 := R.oa_hp ho
          refine ⟨_, rfl, N.oa s.at_, CO, dx, _, rfl, h1, T.cl_HeapObject, T.n_HeapObject_colour, by show 3 < 1000; decide, ?_⟩
          refine ⟨_, rfl, N.hp, CH, dH, _, _, rfl, by rw [upd_ne n5.symm]; exact hH, T.cl_Heap, T.n_Heap_next_cell, hpF_next .., _, _, rfl, rfl, dH, _, by rw [upd_ne n5.symm]; exact hH, by show 4 < 1000; decide, ?_⟩
          rw [ph, e1]
          refine q _ (R.sweep g ph hl hx1 ⟨dH, upd_same⟩ ?_ (fun p hp hne => ?_) fun b b1 b2 b3 => ?_) (Keeps.of (fun b nb => ?_) bk) fun b hb => fresh_upd (fresh_upd hb)
          · rw [upd_ne n1.symm, upd_ne (R.oa_ne ho).1.symm, ec]
            show H N.lc = some (HO.lst (xs.set s.at_ (cellV N.oa s.at_ (if o.colour = 0 then none else _))))
            rw [if_neg hw]
            rw [ec] at hx
            rw [show xs.set s.at_ (cellV N.oa s.at_ (some ⟨0, o.slots⟩)) = xs from set_same hx]
            exact hx1
          · exact ⟨dx, by rw [upd_ne n5]; exact upd_same⟩
          · rw [upd_ne b1, upd_ne (b3 o ho)]
          · rw [upd_ne fun z => nb (.inl z)]
            exact Rep.colour_out ho _ b nb
/-! work_steps -/
theorem steps_zero (s : HS) : HeapNs.steps 0 s = (s, 0) := rfl
theorem steps_idle {n : Nat} {s : HS} (h : s.phase = 0) : HeapNs.steps n s = (s, 0) := by
  cases n with
  | zero => rfl
  | succ n => exact if_pos h
theorem steps_go {n : Nat} {s : HS} (h : s.phase ≠ 0) : HeapNs.steps (n + 1) s = ((HeapNs.steps n (HeapNs.oneStep s)).1, (HeapNs.steps n (HeapNs.oneStep s)).2 + 1) := if_neg h
def spWork (CO CH : Addr) : Sp := fun vs H Q _ => ∃ (N : Nm) (s : HS) (n : Nat), vs = [.ref N.hp, .int n] ∧ Rep CO CH N s H ∧ Good s ∧ After CO CH N s H (.work n) Q
def doneOf (n : Nat) (σ : L2.St) : Nat := match (σ[2]? : Option (Option V)) with
  | some (some (V.int i)) => n - i.toNat
  | _ => 0
theorem ok_work {f : Addr} {fd : FuncData} (F : Fun K "work_steps" "work_steps" st_work_steps f fd) (T : Txt K mg CO CH) (hM : Has P w K mg base 2 "mark_step" ["heap"] (spMark CO CH)) (hW : Has P w K mg base 2 "sweep_step" ["heap"] (spSweep CO CH)) :
    FnOk P w K mg base CX0 3 f fd ["heap", "n"] (spWork CO CH) := by
  refine F.ok sc_work_steps (fun vs H Q E h => ?_) (fun cdv A outer s H vs Q E hr h => ?_)
  · obtain ⟨N, s, n, rfl, _⟩ := h
    rfl
  · obtain ⟨N, s, n, rfl, R, g, q⟩ := h
    refine ⟨_, pss_cons (ps_if (pt_not (pt_chain op_le op_le pe_int (pv 1) (pe_gint rfl T.g_MOST_STEPS))) (pss_one (ps_ret (pe_lst (pa_cons (pe_gint rfl T.g_OUT_OF_RANGE) pa_nil)))) pss_nil)
      (pss_cons (ps_set (i := 2) sc_work_steps.nd rfl (Or.inl rfl) pe_int)
      (pss_cons (ps_while PassesOwn.never (PW.pt (pw_and (pt_cmpR op_lt (pv 2) (pv 1) (nomark _)) (pw_and1 (pt_cmpR op_ne (pe_fld (pv 0) rfl) (pe_gint rfl T.g_IDLE) (nomark _)))))
        (pss_cons (ps_if (pt_cmpR op_eq (pe_fld (pv 0) rfl) (pe_gint rfl T.g_MARKING) (nomark _)) (pss_one (ps_expr (pe_h hM hr rfl (pa_cons (pv 0) pa_nil)))) (pss_one (ps_expr (pe_h hW hr rfl (pa_cons (pv 0) pa_nil)))))
        (pss_one (ps_aug (i := 2) sc_work_steps.nd rfl (Or.inl rfl) pe_int ip_add))))
      (pss_one (ps_ret (pe_lst (pa_cons (pv 2) pa_nil)))))), ?_⟩
    refine ⟨_, rfl, _, _, rfl, rfl, _, rfl, ?_⟩
    rw [if_pos (decide_eq_true (Int.natCast_nonneg n))]
    refine ⟨_, _, rfl, rfl, _, rfl, ?_⟩
    by_cases hn : n ≤ 1000
    rotate_left
    · rw [decide_eq_false (show ¬ (n : Int) ≤ 1000 by omega)]
      have es : HeapNs.step s (.work n) = (s, HeapNs.says (-1)) := if_pos (by show 1000 < n; omega)
      exact iteT ⟨(by show 1 ≤ sizeLine; decide), q.still R (by rw [es]) (by rw [es]; rfl)⟩
    · rw [decide_eq_true (show (n : Int) ≤ 1000 by omega)]
      have es : HeapNs.step s (.work n) = ((HeapNs.steps n s).1, HeapNs.says ((HeapNs.steps n s).2 : Nat)) := if_neg (by show ¬ 1000 < n; omega)
      refine iteF ?_
      refine while_by (fun σ H' => ∃ (d : Nat) (s' : HS), σ = [some (.ref N.hp), some (.int n), some (.int d)] ∧ Rep CO CH N s' H' ∧ Good s' ∧ Keeps N s H N s' H' ∧ (∀ b, H' b = none → H b = none) ∧ d ≤ n ∧ HeapNs.steps n s = ((HeapNs.steps (n - d) s').1, (HeapNs.steps (n - d) s').2 + d)) (fun σ _ => doneOf n σ) ⟨0, s, rfl, R, g, Keeps.refl _ _ _, fun _ z => z, Nat.zero_le _, rfl⟩ ?_ ?_
      · rintro σ H' ⟨d, s', rfl, R', g', kp, fr, hd, ee⟩
        obtain ⟨dH, nx, hH, hnx⟩ := R'.hp
        refine ⟨_, rfl, _, rfl, _, _, rfl, rfl, _, rfl, ?_⟩
        have out : HeapNs.steps n s = (s', d) → ∀ p, H' p = none → Q (.ref p) (upd H' p (.lst [V.int (d : Nat)])) := fun e => by
          rw [e] at es
          exact q.one es rfl R' kp fr
        by_cases hdn : d < n
        rotate_left
        · rw [decide_eq_false (show ¬ (d : Int) < (n : Nat) by omega)]
          have e0 : n - d = 0 := by omega
          rw [e0, steps_zero] at ee
          refine iteF (iteF ⟨_, rfl, (by show 1 ≤ sizeLine; decide), out ?_⟩)
          rw [ee, Nat.zero_add]
        · rw [decide_eq_true (show (d : Int) < (n : Nat) by omega)]
          refine iteT ⟨_, rfl, N.hp, CH, dH, _, _, rfl, hH, T.cl_Heap, T.n_Heap_phase, hpF_phase .., rfl, _, rfl, ?_⟩
          by_cases e : s'.phase = 0
          · rw [decide_eq_true (show V.int (s'.phase : Nat) = V.int 0 by rw [e]; rfl)]
            rw [steps_idle e] at ee
            refine iteF ⟨_, rfl, (by show 1 ≤ sizeLine; decide), out ?_⟩
            rw [ee, Nat.zero_add]
          · rw [decide_eq_false (show ¬ V.int (s'.phase : Nat) = V.int 0 by intro z; injection z with z; omega)]
            obtain ⟨m, hm⟩ : ∃ m, n - d = m + 1 := ⟨n - d - 1, by omega⟩
            have hm2 : n - (d + 1) = m := by omega
            rw [hm, steps_go e] at ee
            have nxt : ∀ H2, Rep CO CH N (HeapNs.oneStep s') H2 → Keeps N s' H' N (HeapNs.oneStep s') H2 → (∀ b, H2 b = none → H' b = none) →
                ∃ (d' : Nat) (s2 : HS), [some (V.ref N.hp), some (V.int n), some (V.int ((d : Int) + 1))] = [some (V.ref N.hp), some (V.int n), some (V.int d')] ∧ Rep CO CH N s2 H2 ∧ Good s2 ∧ Keeps N s H N s2 H2 ∧ (∀ b, H2 b = none → H b = none) ∧ d' ≤ n ∧ HeapNs.steps n s = ((HeapNs.steps (n - d') s2).1, (HeapNs.steps (n - d') s2).2 + d') := fun H2 R2 k2 f2 =>
              ⟨d + 1, HeapNs.oneStep s', rfl, R2, good_one g', kp.trans k2, fun b hb => fr b (f2 b hb), by omega, by rw [hm2, ee]; exact congrArg (Prod.mk _) (by omega)⟩
            have meas : n - ((d : Int) + 1).toNat < n - ((d : Int)).toNat := by omega
            refine iteT ⟨_, rfl, N.hp, CH, dH, _, _, rfl, hH, T.cl_Heap, T.n_Heap_phase, hpF_phase .., rfl, _, rfl, ite2 (fun h => ?_) fun h => ?_⟩
            · have e1 : s'.phase = 1 := by have := int_dec h; omega
              have eo : HeapNs.oneStep s' = HeapNs.markStep s' := if_pos e1
              rw [eo] at nxt
              exact ⟨_, rfl, N, s', rfl, R', g', e1, fun H2 R2 k2 f2 => ⟨_, rfl, _, _, rfl, rfl, nxt H2 R2 k2 f2, meas⟩⟩
            · have e1 : s'.phase ≠ 1 := fun z => int_dec' h (by omega)
              have e2 : s'.phase = 2 := by have := g'.ph; omega
              have eo : HeapNs.oneStep s' = HeapNs.sweepStep s' := (if_neg e1).trans (if_pos e2)
              rw [eo] at nxt
              exact ⟨_, rfl, N, s', rfl, R', g', e2, fun H2 R2 k2 f2 => ⟨_, rfl, _, _, rfl, rfl, nxt H2 R2 k2 f2, meas⟩⟩
      · rintro σ H' Q1 Q2 hq ⟨v, e1, v2, e2, i, j, e3, e4, kk, e5, e6⟩
        refine ⟨v, e1, v2, e2, i, j, e3, e4, kk, e5, ?_⟩
        cases kk with
        | false => exact iteF (hq _ _ (by simpa using e6))
        | true =>
          rw [if_pos rfl] at e6
          obtain ⟨v, a1, a, C, dx, fs, u, a2, a3, a4, a5, a6, a7, k2, a8, a9⟩ := e6
          exact iteT ⟨v, a1, a, C, dx, fs, u, a2, a3, a4, a5, a6, a7, k2, a8, hq _ _ a9⟩
end
end Sw

end
section
set_option Elab.async false
set_option linter.all false
set_option maxRecDepth 100000
set_option maxHeartbeats 2000000
namespace Sw
open PySem PySem.Spec PyProof.Rows L2
open PySem.W (looks_findIn looks_mroIn kit_cls)
/-- what of the text a class must have that == on its instances be identity -/
structure EqCls (K : PySem.W.Frag) (C : Addr) : Prop where
  eq : PySem.W.findIn K (.ref C) "__eq__" = some (some (.builtin "object.__eq__"))
  ob : PySem.W.mroIn K C (.type "object") = some true
  mi : PySem.W.mroIn K C (.type "int") = some false
  mn : PySem.W.mroIn K C (.type "NoneType") = some false
  ki : PySem.W.kitOne K (.type "int") (.ref C) = some false
  kn : PySem.W.kitOne K (.type "NoneType") (.ref C) = some false
section
variable {prog : Program} {w : World} {A : Around} {E : Value → Shared → Prop} {K : PySem.W.Frag} {C x y : Addr} {s : Shared} {ox oy : Obj}
theorem ty_own {M : Model} {Q : Value → Shared → Prop} (hx : s.heap.get? x = some ox) (hc : ox.cls = .ref C) (q : Q (.ref C) s) : wpAny M A (typeOf (.ref x)) Q E s := by
  unfold typeOf
  refine wpAny_bind (wpAny_loadPart hx ?_)
  rw [hc]
  exact wpAny_pure q
theorem sp_own {M : Model} {Q : Option Value → Shared → Prop} (X : K.In s.heap) (e : EqCls K C) (hx : s.heap.get? x = some ox) (hc : ox.cls = .ref C) (q : Q (some (.builtin "object.__eq__")) s) : wpAny M A (specialOf (.ref x) "__eq__") Q E s := by
  unfold specialOf
  exact wpAny_bind (ty_own hx hc (looks_findIn X e.eq A _ E s (fun _ _ z => z) q))
theorem csp_own {M : Model} {v : Value} {Q : Option Value → Shared → Prop} (X : K.In s.heap) (e : EqCls K C) (hx : s.heap.get? x = some ox) (hc : ox.cls = .ref C)
    (hcall : wpAny M A (call (.builtin "object.__eq__") [.ref x, v]) (fun r => Q (some r)) E s) : wpAny M A (callSpecialIfBound? (.ref x) "__eq__" [v]) Q E s := by
  have S := F.cmp_object.eq
  simp only [callSpecialIfBound?, bindSpecialIfBound?]
  refine wpAny_holding (wpAny_bind (wpAny_bind (sp_own X e hx hc ?_)))
  simp only [S.bind]
  refine wpAny_bind (wpAny_askSetting (wpAny_ite ?_))
  have fin : wpAny M A (call (.builtin "object.__eq__") ([.ref x] ++ [v]) >>= fun r => pure (some r)) Q E s :=
    wpAny_bind (wpAny_mono hcall (fun v s' h' => wpAny_pure h') fun _ _ h' => h')
  split
  · exact wpAny_bind (wpAny_pure (wpAny_pure fin))
  · exact wpAny_tryCatch (wpAny_bind (wpAny_pure (wpAny_pure fin)))
theorem chk_own {M : Model} {v : Value} {Q : Unit → Shared → Prop} (X : K.In s.heap) (e : EqCls K C) (hx : s.heap.get? x = some ox) (hc : ox.cls = .ref C) (hq : Q () s) :
    wpAny M A (checkBuiltinCall "object.__eq__" ⟨[.ref x, v], []⟩) Q E s := by
  simp only [checkBuiltinCall, F.cmpKind_eq, F.cmpSplit_eq]
  refine wpAny_bind ?_
  unfold isInstance
  refine wpAny_bind (ty_own hx hc (looks_mroIn X e.ob A _ E s (fun _ _ z => z) ?_))
  rw [if_neg (by simp)]
  have ha := F.cmpArgs_eq (.ref x) v
  cases hsig : Manifest.signature? "object.__eq__" with
  | none => exact wpAny_pure hq
  | some sig =>
    simp only [argsOk, hsig] at ha
    have h2 : Bind.checkArgs "object.__eq__" sig ⟨[.ref x, v], []⟩ = pure () := ha
    show wpAny M A (Bind.checkArgs "object.__eq__" sig ⟨[.ref x, v], []⟩) Q E _
    rw [h2]; exact wpAny_pure hq
theorem call_own {v r : Value} {Q : Value → Shared → Prop} (X : K.In s.heap) (e : EqCls K C) (hx : s.heap.get? x = some ox) (hc : ox.cls = .ref C)
    (h : ∀ (A' : Around) (E' : Value → Shared → Prop) (R : Fin → Shared → Prop), R (.done (.ret r)) s → wpAny (model prog w) A' (Builtin.«object.__eq__» ⟨[.ref x, v], []⟩) R E' s) (q : Q r s) :
    wpAny (model prog w) A (call (.builtin "object.__eq__") [.ref x, v]) Q E s :=
  wpAny_call (codeAny_call_builtin F.cmp_object.eq.plain F.cmpEntry_eq (chk_own X e hx hc (h _ _ _ q)))
theorem same_no {v : Value} (hv : (∃ i t, v = .int i t) ∨ v = .none) : isSame (.ref x) v = pure false := by
  rcases hv with ⟨i, t, rfl⟩ | rfl <;> rfl
theorem same_no' {v : Value} (hv : (∃ i t, v = .int i t) ∨ v = .none) : isSame v (.ref x) = pure false := by
  rcases hv with ⟨i, t, rfl⟩ | rfl <;> rfl
theorem ent_no {M : Model} {v : Value} (hv : (∃ i t, v = .int i t) ∨ v = .none) {R : Fin → Shared → Prop} (q : R (.done (.ret .notImplemented)) s) : wpAny M A (Builtin.«object.__eq__» ⟨[.ref x, v], []⟩) R E s := by
  unfold Builtin.«object.__eq__»
  have hs := same_no (x := x) hv
  repeat (first | with_reducible refine wpAny_of_eq hs ?_ | wp_step)
  exact q
theorem try_no {v : Value} {Q : Option Value → Shared → Prop} (hv : (∃ i t, v = .int i t) ∨ v = .none) (X : K.In s.heap) (e : EqCls K C) (hx : s.heap.get? x = some ox) (hc : ox.cls = .ref C) (q : Q none s) :
    wpAny (model prog w) A (tryCompare (.ref x) "__eq__" v) Q E s := by
  simp only [tryCompare]
  exact wpAny_bind (csp_own X e hx hc (call_own X e hx hc (fun _ _ _ z => ent_no hv z) (wpAny_pure q)))
theorem try_same {Q : Option Value → Shared → Prop} (X : K.In s.heap) (e : EqCls K C) (hx : s.heap.get? x = some ox) (hc : ox.cls = .ref C) (q : Q (some (.bool true)) s) :
    wpAny (model prog w) A (tryCompare (.ref x) "__eq__" (.ref x)) Q E s := by
  simp only [tryCompare]
  exact wpAny_bind (csp_own X e hx hc (call_own X e hx hc (fun _ _ _ z => objEq_entry_same z) (wpAny_pure q)))
theorem try_other {Q : Option Value → Shared → Prop} (X : K.In s.heap) (e : EqCls K C) (hx : s.heap.get? x = some ox) (hc : ox.cls = .ref C) (hy : s.heap.get? y = some oy) (hxy : x ≠ y) (q : Q none s) :
    wpAny (model prog w) A (tryCompare (.ref x) "__eq__" (.ref y)) Q E s := by
  simp only [tryCompare]
  have hnt : ox.cls ≠ .type "tuple" := by rw [hc]; intro z; cases z
  exact wpAny_bind (csp_own X e hx hc (call_own X e hx hc (fun _ _ _ z => objEq_entry_other hxy hx hy hnt z) (wpAny_pure q)))
theorem rich_same {Q : Value → Shared → Prop} (X : K.In s.heap) (e : EqCls K C) (hu : A.units < cLine) (hx : s.heap.get? x = some ox) (hc : ox.cls = .ref C) (q : Q (.bool true) s) :
    wpAny (model prog w) A (compareOp .Eq (.ref x) (.ref x)) Q E s := by
  show wpAny _ A (richCompare .Eq _ _) Q E s
  simp only [richCompare, cmpInfo_Eq, oneThing_ref]
  refine wpAny_holding (wpAny_bind (wpAny_cRoomFor hu (wpAny_bind (ty_own hx hc (wpAny_bind (ty_own hx hc ?_))))))
  rw [if_neg (by simp)]
  refine wpAny_bind (wpAny_pure ?_)
  rw [if_neg (by simp)]
  exact wpAny_bind (try_same X e hx hc (wpAny_pure q))
theorem rich_other {Q : Value → Shared → Prop} (X : K.In s.heap) (e : EqCls K C) (hu : A.units < cLine) (hx : s.heap.get? x = some ox) (hc : ox.cls = .ref C) (hy : s.heap.get? y = some oy) (hcy : oy.cls = .ref C) (hxy : x ≠ y) (q : Q (.bool false) s) :
    wpAny (model prog w) A (compareOp .Eq (.ref x) (.ref y)) Q E s := by
  have hnt : ox.cls ≠ .type "tuple" := by rw [hc]; intro z; cases z
  show wpAny _ A (richCompare .Eq _ _) Q E s
  simp only [richCompare, cmpInfo_Eq, oneThing_ref]
  refine wpAny_holding (wpAny_bind (wpAny_cRoomFor hu (wpAny_bind (ty_own hx hc (wpAny_bind (ty_own hy hcy ?_))))))
  rw [if_neg (by simp)]
  refine wpAny_bind (wpAny_pure ?_)
  rw [if_neg (by simp)]
  refine wpAny_bind (try_other X e hx hc hy hxy ?_)
  dsimp only
  rw [if_pos (by simp)]
  refine wpAny_bind (try_other X e hy hcy hx hxy.symm ?_)
  dsimp only
  exact wpAny_bind (wpAny_rule (wpAny_bind (wpAny_isSame_ref_other hxy hx hy hnt (wpAny_pure q))))
theorem int_ent {M : Model} {i : Int} {t : Tok} {R : Fin → Shared → Prop} (hx : s.heap.get? x = some ox) (hd : ox.data = .plain) (q : R (.done (.ret .notImplemented)) s) : wpAny M A (Builtin.«int.__eq__» ⟨[.int i t, .ref x], []⟩) R E s := by
  obtain ⟨hp, g, d, tk, os⟩ := s
  obtain ⟨oc, odi, oda, osl⟩ := ox
  dsimp only at hd
  subst hd
  have hx : hp.get? x = some ⟨oc, odi, .plain, osl⟩ := hx
  wp_walk
  exact q
theorem none_ent {M : Model} {R : Fin → Shared → Prop} (q : R (.done (.ret .notImplemented)) s) : wpAny M A (Builtin.«NoneType.__eq__» ⟨[.none, .ref x], []⟩) R E s := by
  obtain ⟨hp, g, d, tk, os⟩ := s
  wp_walk
  exact q
theorem try_int {i : Int} {t : Tok} {Q : Option Value → Shared → Prop} (hx : s.heap.get? x = some ox) (hd : ox.data = .plain) (q : Q none s) : wpAny (model prog w) A (tryCompare (.int i t) "__eq__" (.ref x)) Q E s :=
  wpAny_tryCompare_declines (typeIs_int s i t) F.slot_int_eq (wpAny_call (codeAny_call_builtin F.slot_int_eq.plain F.entry_int_eq (F.slot_int_eq.check _ _ _ _ _ _ _ _ (typeIs_int s i t) (F.args_int_eq_2 _ _) (int_ent hx hd ⟨rfl, q⟩))))
theorem try_none {Q : Option Value → Shared → Prop} (q : Q none s) : wpAny (model prog w) A (tryCompare .none "__eq__" (.ref x)) Q E s :=
  wpAny_tryCompare_declines (T := "NoneType") rfl F.slot_NoneType_eq (wpAny_call (codeAny_call_builtin F.slot_NoneType_eq.plain F.entry_NoneType_eq (F.slot_NoneType_eq.check _ _ _ _ _ _ _ _ rfl (F.args_NoneType_eq_2 _ _) (none_ent ⟨rfl, q⟩))))
theorem try_v {v : Value} {Q : Option Value → Shared → Prop} (hv : (∃ i t, v = .int i t) ∨ v = .none) (hx : s.heap.get? x = some ox) (hd : ox.data = .plain) (q : Q none s) : wpAny (model prog w) A (tryCompare v "__eq__" (.ref x)) Q E s := by
  rcases hv with ⟨i, t, rfl⟩ | rfl
  · exact try_int hx hd q
  · exact try_none q
theorem kit_sub {M : Model} {h : Heap} {T : String} (X : K.In h) (e : PySem.W.kitOne K (.type T) (.ref C) = some false) : PySem.W.Looks M h (isSubtype (.type T) (.ref C)) false := by
  unfold PySem.W.kitOne at e
  rw [if_neg (by intro z; rw [beq_iff_eq] at z; cases z)] at e
  exact (kit_cls X e).2.2
theorem rich_l {v : Value} {Q : Value → Shared → Prop} (hv : (∃ i t, v = .int i t) ∨ v = .none) (X : K.In s.heap) (e : EqCls K C) (hu : A.units < cLine) (hx : s.heap.get? x = some ox) (hc : ox.cls = .ref C) (hd : ox.data = .plain) (q : Q (.bool false) s) :
    wpAny (model prog w) A (compareOp .Eq (.ref x) v) Q E s := by
  show wpAny _ A (richCompare .Eq _ _) Q E s
  have o1 : oneThing? .Eq (.ref x) v = none := by rcases hv with ⟨i, t, rfl⟩ | rfl <;> rfl
  simp only [richCompare, cmpInfo_Eq, o1]
  have main : wpAny (model prog w) A (do
      let __do_lift ← tryCompare (.ref x) "__eq__" v
      match __do_lift with
        | some v => pure v
        | _ => do
            let __do_lift ← tryCompare v "__eq__" (.ref x)
            match __do_lift with
              | some v => pure v
              | _ => do
                rule "compare.eq-identity"
                let __do_lift ← isSame (.ref x) v
                pure (Value.bool __do_lift)) Q E s := by
    refine wpAny_bind (try_no hv X e hx hc (wpAny_bind (try_v hv hx hd (wpAny_bind (wpAny_rule (wpAny_bind (wpAny_of_eq (same_no hv) (wpAny_pure q))))))))
  have ty : ∀ (R : Value → Shared → Prop), (∀ T, PySem.W.Looks (model prog w) s.heap (isSubtype (.type T) (.ref C)) false → R (.type T) s) → wpAny (model prog w) A (typeOf v) R E s := fun R hR => by
    rcases hv with ⟨i, t, rfl⟩ | rfl
    · exact wpAny_pure (hR "int" (kit_sub X e.ki))
    · exact wpAny_pure (hR "NoneType" (kit_sub X e.kn))
  refine wpAny_holding (wpAny_bind (wpAny_cRoomFor hu (wpAny_bind (ty_own hx hc (wpAny_bind (ty _ fun T L => ?_))))))
  rw [if_pos (by simp)]
  refine wpAny_bind (L A _ E s (fun _ _ z => z) ?_)
  exact main
theorem rich_r {v : Value} {Q : Value → Shared → Prop} (hv : (∃ i t, v = .int i t) ∨ v = .none) (X : K.In s.heap) (e : EqCls K C) (hu : A.units < cLine) (hx : s.heap.get? x = some ox) (hc : ox.cls = .ref C) (hd : ox.data = .plain) (q : Q (.bool false) s) :
    wpAny (model prog w) A (compareOp .Eq v (.ref x)) Q E s := by
  show wpAny _ A (richCompare .Eq _ _) Q E s
  have o1 : oneThing? .Eq v (.ref x) = none := by rcases hv with ⟨i, t, rfl⟩ | rfl <;> rfl
  simp only [richCompare, cmpInfo_Eq, o1]
  have main : wpAny (model prog w) A (do
      let __do_lift ← tryCompare v "__eq__" (.ref x)
      match __do_lift with
        | some v => pure v
        | _ => do
            let __do_lift ← tryCompare (.ref x) "__eq__" v
            match __do_lift with
              | some v => pure v
              | _ => do
                rule "compare.eq-identity"
                let __do_lift ← isSame v (.ref x)
                pure (Value.bool __do_lift)) Q E s := by
    refine wpAny_bind (try_v hv hx hd (wpAny_bind (try_no hv X e hx hc (wpAny_bind (wpAny_rule (wpAny_bind (wpAny_of_eq (same_no' hv) (wpAny_pure q))))))))
  have ty : ∀ (R : Value → Shared → Prop), (∀ T, PySem.W.Looks (model prog w) s.heap (isSubtype (.ref C) (.type T)) false → R (.type T) s) → wpAny (model prog w) A (typeOf v) R E s := fun R hR => by
    rcases hv with ⟨i, t, rfl⟩ | rfl
    · exact wpAny_pure (hR "int" (looks_mroIn X e.mi))
    · exact wpAny_pure (hR "NoneType" (looks_mroIn X e.mn))
  refine wpAny_holding (wpAny_bind (wpAny_cRoomFor hu (wpAny_bind (ty _ fun T L => (wpAny_bind (ty_own hx hc ?_))))))
  rw [if_pos (by simp)]
  refine wpAny_bind (L A _ E s (fun _ _ z => z) ?_)
  exact main
end
/-- == of nothing, numbers and instances of the class C -/
inductive EqO (C : Addr) (H : Hp) : V → V → Bool → Prop where
  | sc {x y : V} (h : scal x y = true) : EqO C H x y (decide (x = y))
  | oo {a b dx dy : Addr} {fs gs : List (Str × V)} (ha : H a = some (.ins C dx fs)) (hb : H b = some (.ins C dy gs)) : EqO C H (.ref a) (.ref b) (decide (a = b))
  | on {a dx : Addr} {fs : List (Str × V)} (ha : H a = some (.ins C dx fs)) : EqO C H (.ref a) .non false
  | oi {a dx : Addr} {fs : List (Str × V)} {i : Int} (ha : H a = some (.ins C dx fs)) : EqO C H (.ref a) (.int i) false
  | no {a dx : Addr} {fs : List (Str × V)} (ha : H a = some (.ins C dx fs)) : EqO C H .non (.ref a) false
  | io {a dx : Addr} {fs : List (Str × V)} {i : Int} (ha : H a = some (.ins C dx fs)) : EqO C H (.int i) (.ref a) false
def rEqO (C : Addr) : R2 := fun x y H Q => ∃ b, EqO C H x y b ∧ Q (.bl b) H
theorem op_eqO {X : Cx} {C : Addr} (e : EqCls X.K C) (hu : X.A.units < cLine) : OpR X (compareOp .Eq) (rEqO C) := by
  intro pins s σ H x y v u Q I rx ry h
  obtain ⟨b, hb, q⟩ := h
  have there : ∀ {a dx : Addr} {fs : List (Str × V)}, H a = some (.ins C dx fs) → ∃ o, s.heap.get? a = some o ∧ o.cls = .ref C ∧ o.data = .plain := fun {a dx fs} ha => by
    obtain ⟨mA, O, _⟩ := ins_get I.hok ha
    exact ⟨_, O.obj, rfl, rfl⟩
  cases hb with
  | sc h => exact op_eq pins s σ H x y v u Q I rx ry ⟨h, q⟩
  | @oo a b dx dy fs gs ha hb =>
    cases rx
    cases ry
    obtain ⟨o1, h1, h2, h3⟩ := there ha
    obtain ⟨o2, g1, g2, g3⟩ := there hb
    by_cases z : a = b
    · subst z
      exact rich_same I.kIn e hu h1 h2 (fin_bl I q (by simp))
    · exact rich_other I.kIn e hu h1 h2 g1 g2 z (fin_bl I q (by simp [z]))
  | on ha =>
    cases rx
    cases ry
    obtain ⟨o1, h1, h2, h3⟩ := there ha
    exact rich_l (.inr rfl) I.kIn e hu h1 h2 h3 (fin_bl I q rfl)
  | oi ha =>
    cases rx
    obtain ⟨t, rfl⟩ := ry
    obtain ⟨o1, h1, h2, h3⟩ := there ha
    exact rich_l (.inl ⟨_, _, rfl⟩) I.kIn e hu h1 h2 h3 (fin_bl I q rfl)
  | no ha =>
    cases rx
    cases ry
    obtain ⟨o1, h1, h2, h3⟩ := there ha
    exact rich_r (.inr rfl) I.kIn e hu h1 h2 h3 (fin_bl I q rfl)
  | io ha =>
    obtain ⟨t, rfl⟩ := rx
    cases ry
    obtain ⟨o1, h1, h2, h3⟩ := there ha
    exact rich_r (.inl ⟨_, _, rfl⟩) I.kIn e hu h1 h2 h3 (fin_bl I q rfl)
end Sw

end
section
set_option Elab.async false
set_option linter.all false
set_option maxRecDepth 100000
set_option maxHeartbeats 2000000
namespace Sw
open PySem PySem.Spec PyProof.Rows L2
open HeapNs (Val)
open PySem.W (Codec)
theorem rep_non (n : Nat) : (List.replicate ((n : Int)).toNat [V.non]).flatten = List.replicate n V.non := by
  rw [Int.toNat_natCast]
  induction n with
  | zero => rfl
  | succ n ih => rw [List.replicate_succ, List.flatten_cons, ih]; rfl
section
variable {P : Program} {w : World} {K : PySem.W.Frag} {mg : Str → Option Value} {base : Heap} {CO CH : Addr}
def spInitO (CO : Addr) : Sp := fun vs H Q _ => ∃ (p dx : Addr) (n c k : Nat), vs = [.ref p, .int n, .int c, .int k] ∧ n ≤ 8 ∧ H p = some (.ins CO dx []) ∧ ∀ (H' : Hp) (l : Addr), H' p = some (.ins CO dx (obF k c l)) → H' l = some (.lst (List.replicate n .non)) → H l = none → (∀ b o, H b = some o → b ≠ p → H' b = some o) → (∀ b, H' b = none → H b = none) → Q .non H'
theorem ok_initO {f : Addr} {fd : FuncData} (F : Fun K "__init__" "HeapObject.__init__" st_HeapObject_init f fd) (T : Txt K mg CO CH) : FnOk P w K mg base CX0 1 f fd ["self", "slot_count", "cell", "colour"] (spInitO CO) := by
  refine F.ok sc_HeapObject_init (fun vs H Q E h => ?_) (fun cdv A outer s H vs Q E hr h => ?_)
  · obtain ⟨p, dx, n, c, k, rfl, _⟩ := h
    rfl
  · obtain ⟨p, dx, n, c, k, rfl, hn, hp, q⟩ := h
    refine ⟨_, pss_cons (ps_fld (pv 0) (pe_op op_rep (pe_lst (pa_cons pe_non pa_nil)) (pv 1)) rfl) (pss_cons (ps_fld (pv 0) (pv 2) rfl) (pss_one (ps_fld (pv 0) (pv 3) rfl))), ?_⟩
    refine ⟨(by show 1 ≤ sizeLine; decide), fun l0 hl0 => ⟨_, rfl, l0, _, _, rfl, rfl, upd_same, by omega, by omega, ?_, fun l hl => ?_⟩⟩
    · rw [Int.toNat_natCast]
      have : sizeLine = 16777216 := sizeLine_eq
      show 1 * n ≤ _
      omega
    · rw [rep_non]
      have np0 : p ≠ l0 := ne_of_none hp hl0
      have hp1 : upd H l0 (.lst [V.non]) p = some (.ins CO dx []) := by rw [upd_ne np0]; exact hp
      have npl : p ≠ l := ne_of_none hp1 hl
      have hp2 : upd (upd H l0 (.lst [V.non])) l (.lst (List.replicate n V.non)) p = some (.ins CO dx []) := by rw [upd_ne npl]; exact hp1
      refine ⟨_, rfl, p, CO, dx, _, rfl, hp2, T.cl_HeapObject, T.n_HeapObject_slots, by show 0 < 1000; decide, ?_⟩
      refine ⟨_, rfl, _, rfl, p, CO, dx, _, rfl, upd_same, T.cl_HeapObject, T.n_HeapObject_cell, by show 1 < 1000; decide, ?_⟩
      refine ⟨_, rfl, _, rfl, p, CO, dx, _, rfl, upd_same, T.cl_HeapObject, T.n_HeapObject_colour, by show 2 < 1000; decide, ?_⟩
      refine q _ l upd_same ?_ (fresh_upd hl) (fun b o hb hbp => ?_) fun b hb => fresh_upd (fresh_upd (fresh_upd (fresh_upd (fresh_upd hb))))
      · rw [upd_ne npl.symm, upd_ne npl.symm, upd_ne npl.symm, upd_same]
      · have b0 : upd H l0 (.lst [V.non]) b = some o := by rw [upd_ne (ne_of_none hb hl0)]; exact hb
        rw [upd_ne hbp, upd_ne hbp, upd_ne hbp, upd_ne (ne_of_none b0 hl)]
        exact b0
def spInitH (CH : Addr) : Sp := fun vs H Q _ => ∃ (p dx : Addr), vs = [.ref p] ∧ H p = some (.ins CH dx []) ∧ ∀ (H' : Hp) (lc lr : Addr), H' p = some (.ins CH dx (hpF 0 0 lc lr)) → H' lc = some (.lst (List.replicate 64 .non)) → H' lr = some (.lst (List.replicate 8 .non)) → lc ≠ lr → H lc = none → H lr = none → (∀ b o, H b = some o → b ≠ p → H' b = some o) → Q .non H'
theorem ok_initH {f : Addr} {fd : FuncData} (F : Fun K "__init__" "Heap.__init__" st_Heap_init f fd) (T : Txt K mg CO CH) : FnOk P w K mg base CX0 1 f fd ["self"] (spInitH CH) := by
  refine F.ok sc_Heap_init (fun vs H Q E h => ?_) (fun cdv A outer s H vs Q E hr h => ?_)
  · obtain ⟨p, dx, rfl, _⟩ := h
    rfl
  · obtain ⟨p, dx, rfl, hp, q⟩ := h
    refine ⟨_, pss_cons (ps_fld (pv 0) (pe_op op_rep (pe_lst (pa_cons pe_non pa_nil)) (pe_gint rfl T.g_CELL_COUNT)) rfl) (pss_cons (ps_fld (pv 0) (pe_op op_rep (pe_lst (pa_cons pe_non pa_nil)) (pe_gint rfl T.g_REGISTER_COUNT)) rfl) (pss_cons (ps_fld (pv 0) (pe_gint rfl T.g_IDLE) rfl) (pss_one (ps_fld (pv 0) pe_int rfl)))), ?_⟩
    refine ⟨(by show 1 ≤ sizeLine; decide), fun l0 hl0 => ⟨l0, _, _, rfl, rfl, upd_same, by decide, by decide, by decide, fun lc hlc => ?_⟩⟩
    have e64 : (List.replicate (64 : Int).toNat [V.non]).flatten = List.replicate 64 V.non := rep_non 64
    have e8 : (List.replicate (8 : Int).toNat [V.non]).flatten = List.replicate 8 V.non := rep_non 8
    rw [e64]
    have np0 : p ≠ l0 := ne_of_none hp hl0
    have hp1 : upd H l0 (.lst [V.non]) p = some (.ins CH dx []) := by rw [upd_ne np0]; exact hp
    have npc : p ≠ lc := ne_of_none hp1 hlc
    have hp2 : upd (upd H l0 (.lst [V.non])) lc (.lst (List.replicate 64 V.non)) p = some (.ins CH dx []) := by rw [upd_ne npc]; exact hp1
    refine ⟨_, rfl, p, CH, dx, _, rfl, hp2, T.cl_Heap, T.n_Heap_cells, by show 0 < 1000; decide, ?_⟩
    refine ⟨(by show 1 ≤ sizeLine; decide), fun l1 hl1 => ⟨l1, _, _, rfl, rfl, upd_same, by decide, by decide, by decide, fun lr hlr => ?_⟩⟩
    rw [e8]
    have np1 : p ≠ l1 := fun z => by rw [← z, upd_same] at hl1; cases hl1
    have npr : p ≠ lr := fun z => by rw [← z, upd_ne np1, upd_same] at hlr; cases hlr
    have nc1 : lc ≠ l1 := fun z => by rw [← z, upd_ne npc.symm, upd_same] at hl1; cases hl1
    have ncr : lc ≠ lr := fun z => by rw [← z, upd_ne nc1, upd_ne npc.symm, upd_same] at hlr; cases hlr
    refine ⟨_, rfl, p, CH, dx, _, rfl, (by rw [upd_ne npr, upd_ne np1]; exact upd_same), T.cl_Heap, T.n_Heap_registers, by show 1 < 1000; decide, ?_⟩
    refine ⟨_, rfl, p, CH, dx, _, rfl, upd_same, T.cl_Heap, T.n_Heap_phase, by show 2 < 1000; decide, ?_⟩
    refine ⟨_, rfl, p, CH, dx, _, rfl, upd_same, T.cl_Heap, T.n_Heap_next_cell, by show 3 < 1000; decide, ?_⟩
    refine q _ lc lr upd_same ?_ ?_ ncr (fresh_upd hlc) (fresh_upd (fresh_upd (fresh_upd (fresh_upd hlr)))) fun b o hb hbp => ?_
    · rw [upd_ne npc.symm, upd_ne npc.symm, upd_ne npc.symm, upd_ne ncr, upd_ne nc1, upd_ne npc.symm, upd_same]
    · rw [upd_ne npr.symm, upd_ne npr.symm, upd_ne npr.symm, upd_same]
    · have b0 : upd H l0 (.lst [V.non]) b = some o := by rw [upd_ne (ne_of_none hb hl0)]; exact hb
      have b1 : upd (upd H l0 (.lst [V.non])) lc (.lst (List.replicate 64 V.non)) b = some o := by rw [upd_ne (ne_of_none b0 hlc)]; exact b0
      have n1 : b ≠ l1 := fun z => by rw [← z, upd_ne hbp, b1] at hl1; cases hl1
      have n2 : b ≠ lr := fun z => by rw [← z, upd_ne n1, upd_ne hbp, b1] at hlr; cases hlr
      rw [upd_ne hbp, upd_ne hbp, upd_ne hbp, upd_ne n2, upd_ne n1, upd_ne hbp]
      exact b1
/-! new_object -/
def spNew (CO CH : Addr) : Sp := fun vs H Q _ => ∃ (N : Nm) (s : HS) (r n : Nat), vs = [.ref N.hp, .int r, .int n] ∧ Rep CO CH N s H ∧ Good s ∧ After CO CH N s H (.new r n) Q
theorem new_step {s : HS} {r n : Nat} (hr : r < 8) (h1 : 1 ≤ n) (h8 : n ≤ 8) : HeapNs.step s (.new r n) = match s.cells.findIdx? HeapNs.isFree with
    | none => (s, HeapNs.says (-6))
    | some c => ((s.withCells (s.cells.set c (some ⟨s.newColour c, List.replicate n .none_⟩))).withReg r (.obj c), HeapNs.says 0) := if_neg fun z => by
  rw [isReg_iff.mpr hr] at z
  rcases z with z | z | z
  · cases z
  · omega
  · have z : 8 < n := z
    omega
theorem ok_new {f fI : Addr} {fd fdI : FuncData} (F : Fun K "new_object" "new_object" st_new_object f fd) (T : Txt K mg CO CH) (hReg : Has P w K mg base 2 "is_register" ["number"] spReg) (hFree : Has P w K mg base 2 "least_free_cell" ["heap"] (spFree CO CH))
    (hB : Has P w K mg base 2 "birth_colour" ["heap", "cell"] (spBirth CO CH)) (M : Mk K CO fI) (GI : FnOk P w K mg base CX0 1 fI fdI ["self", "slot_count", "cell", "colour"] (spInitO CO)) (bI : Binds K fdI ["self", "slot_count", "cell", "colour"] []) :
    FnOk P w K mg base CX0 3 f fd ["heap", "r", "n"] (spNew CO CH) := by
  refine F.ok sc_new_object (fun vs H Q E h => ?_) (fun cdv A outer s H vs Q E hr h => ?_)
  · obtain ⟨N, s, r, n, rfl, _⟩ := h
    rfl
  · obtain ⟨N, s, r, n, rfl, R, g, q⟩ := h
    refine ⟨_, pss_cons (ps_if (PW.pt (pw_or (pt_not (pt_val (pe_h hReg hr rfl (pa_cons (pv 1) pa_nil)))) (pw_or1 (pt_not (pt_chain op_le op_le pe_int (pv 2) (pe_gint rfl T.g_MOST_SLOTS)))))) (pss_one (ps_ret (pe_lst (pa_cons (pe_gint rfl T.g_OUT_OF_RANGE) pa_nil)))) pss_nil)
      (pss_cons (ps_set (i := 3) sc_new_object.nd rfl (Or.inl rfl) (pe_h hFree hr rfl (pa_cons (pv 0) pa_nil)))
      (pss_cons (ps_if (pt_cmp (pc_isN (pv 3))) (pss_one (ps_ret (pe_lst (pa_cons (pe_gint rfl T.g_NO_FREE_CELL) pa_nil)))) pss_nil)
      (pss_cons (ps_set (i := 4) sc_new_object.nd rfl (Or.inl rfl) (pe_make M GI hr rfl T.mg_HeapObject bI .nil pass0 (pa_cons (pv 2) (pa_cons (pv 3) (pa_cons (pe_h hB hr rfl (pa_cons (pv 0) (pa_cons (pv 3) pa_nil))) pa_nil)))))
      (pss_cons (ps_asg (pv 4) (pg_sub (pe_fld (pv 0) rfl) (pv 3) set_list))
      (pss_cons (ps_asg (pv 4) (pg_sub (pe_fld (pv 0) rfl) (pv 1) set_list)) (pss_one (ps_ret (pe_lst (pa_cons pe_int pa_nil))))))))), ?_⟩
    have A1 : (HeapNs.isReg r = false ∨ n = 0 ∨ 8 < n) → ∀ p, H p = none → Q (.ref p) (upd H p (.lst [V.int (-1)])) := fun h => by
      have es : HeapNs.step s (.new r n) = (s, HeapNs.says (-1)) := if_pos h
      exact q.still R (by rw [es]) (by rw [es]; rfl)
    refine ⟨_, rfl, r, rfl, _, rfl, ?_⟩
    refine ite2 (fun h => iteT ⟨(by show 1 ≤ sizeLine; decide), A1 (.inl (by simpa using h))⟩) fun h => ?_
    have hr8 : r < 8 := isReg_iff.mp (by simpa using h)
    refine ⟨_, rfl, _, _, rfl, rfl, _, rfl, ite2 (fun h1 => ?_) fun h1 => ?_⟩
    rotate_left
    · have h0 : n = 0 := by
        cases n with
        | zero => rfl
        | succ n => exact absurd (decide_eq_true (show (1 : Int) ≤ ((n + 1 : Nat) : Int) by omega)) h1
      exact ⟨_, rfl, iteT ⟨(by show 1 ≤ sizeLine; decide), A1 (.inr (.inl h0))⟩⟩
    have h1 : 1 ≤ n := by have := of_decide_eq_true h1; omega
    refine ⟨_, _, rfl, rfl, _, rfl, ?_⟩
    by_cases h8 : n ≤ 8
    rotate_left
    · rw [decide_eq_false (show ¬ (n : Int) ≤ 8 by omega)]
      exact iteT ⟨(by show 1 ≤ sizeLine; decide), A1 (.inr (.inr (by omega)))⟩
    rw [decide_eq_true (show (n : Int) ≤ 8 by omega)]
    refine iteF ⟨_, rfl, N, s, rfl, R, g, ?_⟩
    have es := new_step (s := s) hr8 h1 h8
    unfold freeV
    cases ef : s.cells.findIdx? HeapNs.isFree with
    | none =>
      rw [ef] at es
      dsimp only at es ⊢
      exact ⟨_, rfl, _, rfl, iteT ⟨(by show 1 ≤ sizeLine; decide), q.still R (by rw [es]) (by rw [es]; rfl)⟩⟩
    | some c =>
      rw [ef] at es
      dsimp only at es ⊢
      obtain ⟨u, hu, gu⟩ := findIdx_get ef
      have hc : s.cells[c]? = some none := by
        cases u with
        | none => exact hu
        | some _ => cases gu
      have hc64 : c < 64 := by rw [← g.len]; exact (List.getElem?_eq_some_iff.mp hc).1
      obtain ⟨dH, nx, hH, hnx⟩ := R.hp
      obtain ⟨xs, hx1, hx2, hx3⟩ := R.lc
      refine ⟨_, rfl, _, rfl, iteF ⟨_, rfl, _, rfl, _, rfl, _, rfl, N, s, c, rfl, R, fun x dx nx1 ndx nex => ?_⟩⟩
      refine ⟨x, dx, n, c, s.newColour c, rfl, h8, upd_same, fun H2 l k1 k2 k3 k4 k5 => ⟨rfl, ?_⟩⟩
      have hl0 : H l = none := fresh_upd (fresh_upd k3)
      have old : ∀ b o, H b = some o → H2 b = some o := fun b o hb => by
        have n1 : b ≠ x := ne_of_none hb nx1
        refine k4 b o ?_ n1
        rw [upd_ne n1, upd_ne (ne_of_none hb ndx)]
        exact hb
      have fr2 : ∀ b, H2 b = none → H b = none := fun b hb => fresh_upd (fresh_upd (k5 b hb))
      refine ⟨_, rfl, _, rfl, N.hp, CH, dH, _, _, rfl, old _ _ hH, T.cl_Heap, T.n_Heap_cells, hpF_cells .., _, rfl, N.lc, xs, _, c, rfl, rfl, old _ _ hx1, ixN_nat (by rw [hx2]; exact hc64), ?_⟩
      have nl : l ≠ N.lc := (ne_of_none hx1 hl0).symm
      have nxc : x ≠ N.lc := (ne_of_none hx1 nx1).symm
      have R3 : Rep CO CH (N.new c x l) (s.withCells (s.cells.set c (some ⟨s.newColour c, List.replicate n .none_⟩))) (upd H2 N.lc (.lst (xs.set c (.ref x)))) :=
        R.new g (n := n) hc nx1 hl0 hx1 (by rw [upd_ne nxc]; exact k1) (by rw [upd_ne nl]; exact k2) upd_same fun b o hb hne => by rw [upd_ne hne]; exact old b o hb
      have kp3 : Keeps N s H (N.new c x l) (s.withCells (s.cells.set c (some ⟨s.newColour c, List.replicate n .none_⟩))) (upd H2 N.lc (.lst (xs.set c (.ref x)))) :=
        Rep.new_keeps (n := n) hc nx1 hl0 fun b o hb hne => by rw [upd_ne hne]; exact old b o hb
      obtain ⟨dH3, nx3, hH3, _⟩ := R3.hp
      have ev : valV (N.new c x l).oa (.obj c) = .ref x := by
        show V.ref (if c = c then x else N.oa c) = V.ref x
        rw [if_pos rfl]
      have R4 := R3.reg r (.obj c)
      have kp4 := kp3.trans (R3.reg_keeps r (.obj c) (.lst (((s.withCells (s.cells.set c (some ⟨s.newColour c, List.replicate n .none_⟩))).regs.map (valV (N.new c x l).oa)).set r (valV (N.new c x l).oa (.obj c)))))
      rw [ev] at R4 kp4
      refine ⟨_, rfl, _, rfl, N.hp, CH, dH3, _, _, rfl, hH3, T.cl_Heap, T.n_Heap_registers, hpF_regs .., _, rfl, N.lr, _, _, r, rfl, rfl, R3.lr, ixN_nat (by rw [List.length_map]; show r < s.regs.length; rw [g.rlen]; exact hr8), (by show 1 ≤ sizeLine; decide), ?_⟩
      exact q.one (N' := N.new c x l) es rfl R4 kp4 fun b hb => fr2 b (fresh_upd (fresh_upd hb))
end
end Sw

end
section
set_option Elab.async false
set_option linter.all false
set_option maxRecDepth 100000
set_option maxHeartbeats 2000000
namespace Sw
open PySem PySem.Spec PyProof.Rows L2
open HeapNs (Val)
open PySem.W (Codec)
section
variable {P : Program} {w : World} {K : PySem.W.Frag} {mg : Str → Option Value} {base : Heap} {CO CH : Addr}
def spGet (CO CH : Addr) : Sp := fun vs H Q _ => ∃ (N : Nm) (s : HS) (d r k : Nat), vs = [.ref N.hp, .int d, .int r, .int k] ∧ Rep CO CH N s H ∧ Good s ∧ After CO CH N s H (.get d r k) Q
theorem ok_get {f : Addr} {fd : FuncData} (F : Fun K "get_from_slot" "get_from_slot" st_get_from_slot f fd) (T : Txt K mg CO CH) (hReg : Has P w K mg base 2 "is_register" ["number"] spReg) (hRef : Has P w K mg base 2 "slot_refusal" ["heap", "r", "k"] (spRef CO CH))
    (hG : Has P w K mg base 2 "shade_got" ["heap", "value"] (spGot CO CH)) : FnOk P w K mg base CX0 3 f fd ["heap", "d", "r", "k"] (spGet CO CH) := by
  refine F.ok sc_get_from_slot (fun vs H Q E h => ?_) (fun cdv A outer s H vs Q E hr h => ?_)
  · obtain ⟨N, s, d, r, k, rfl, _⟩ := h
    rfl
  · obtain ⟨N, s, d, r, k, rfl, R, g, q⟩ := h
    refine ⟨_, pss_cons (ps_if (PW.pt (pw_or (pt_not (pt_val (pe_h hReg hr rfl (pa_cons (pv 1) pa_nil)))) (pw_or1 (pt_not (pt_val (pe_h hReg hr rfl (pa_cons (pv 2) pa_nil))))))) (pss_one (ps_ret (pe_lst (pa_cons (pe_gint rfl T.g_OUT_OF_RANGE) pa_nil)))) pss_nil)
      (pss_cons (ps_set (i := 4) sc_get_from_slot.nd rfl (Or.inl rfl) (pe_h hRef hr rfl (pa_cons (pv 0) (pa_cons (pv 2) (pa_cons (pv 3) pa_nil)))))
      (pss_cons (ps_if (pt_cmp (pc_notN (pv 4))) (pss_one (ps_ret (pe_lst (pa_cons (pv 4) pa_nil)))) pss_nil)
      (pss_cons (ps_set (i := 5) sc_get_from_slot.nd rfl (Or.inl rfl) (pe_ix ix_list (pe_fld (pe_ix ix_list (pe_fld (pv 0) rfl) (pv 2) (fun _ _ => rfl)) rfl) (pv 3) (fun _ _ => rfl)))
      (pss_cons (ps_expr (pe_h hG hr rfl (pa_cons (pv 0) (pa_cons (pv 5) pa_nil))))
      (pss_cons (ps_asg (pv 5) (pg_sub (pe_fld (pv 0) rfl) (pv 1) set_list)) (pss_one (ps_ret (pe_lst (pa_cons pe_int pa_nil))))))))), ?_⟩
    have bad : HeapNs.isReg d = false ∨ HeapNs.isReg r = false → HeapNs.step s (.get d r k) = (s, HeapNs.says (-1)) := fun h => if_pos h
    have good : d < 8 → r < 8 → HeapNs.step s (.get d r k) = (match HeapNs.object s r with
      | none => (s, HeapNs.says (-5))
      | some x => match x.2.slots[k]? with
        | none => (s, HeapNs.says (-4))
        | some v => (HeapNs.load s d v, HeapNs.says 0)) := fun h1 h2 => if_neg fun z => by
      rw [isReg_iff.mpr h1, isReg_iff.mpr h2] at z
      exact absurd z (by decide)
    have A1 : ∀ h : HeapNs.isReg d = false ∨ HeapNs.isReg r = false, ∀ p, H p = none → Q (.ref p) (upd H p (.lst [V.int (-1)])) := fun h => q.still R (by rw [bad h]) (by rw [bad h]; rfl)
    refine ⟨_, rfl, d, rfl, _, rfl, ?_⟩
    refine ite2 (fun h => ?_) (fun h => ⟨_, rfl, r, rfl, _, rfl, ite2 (fun h' => ?_) (fun h' => ?_)⟩)
    · exact iteT ⟨(by show 1 ≤ sizeLine; decide), A1 (.inl (by simpa using h))⟩
    · exact ⟨(by show 1 ≤ sizeLine; decide), A1 (.inr (by simpa using h'))⟩
    · have hd8 : d < 8 := isReg_iff.mp (by simpa using h)
      have hr8 : r < 8 := isReg_iff.mp (by simpa using h')
      have es := good hd8 hr8
      obtain ⟨dH, nx, hH, hnx⟩ := R.hp
      refine ⟨_, rfl, _, rfl, _, rfl, N, s, r, k, rfl, R, g, hr8, ?_⟩
      rcases refusal_cases g hr8 k with ⟨e1, e2⟩ | ⟨c, o, er, ho, hk, hob, ⟨e1, e2⟩ | ⟨e1, e2⟩⟩
      · rw [e1] at es
        rw [e2]
        refine ⟨_, rfl, _, rfl, iteT ⟨_, rfl, (by show 1 ≤ sizeLine; decide), q.still R (by rw [es]) (by rw [es]; rfl)⟩⟩
      · rw [hob] at es
        dsimp only at es
        rw [List.getElem?_eq_none e1] at es
        rw [e2]
        refine ⟨_, rfl, _, rfl, iteT ⟨_, rfl, (by show 1 ≤ sizeLine; decide), q.still R (by rw [es]) (by rw [es]; rfl)⟩⟩
      · rw [hob] at es
        dsimp only at es
        have hv : o.slots[k]? = some o.slots[k] := List.getElem?_eq_getElem e1
        generalize hvv : o.slots[k] = v at hv
        rw [hv] at es
        dsimp only at es
        rw [e2]
        obtain ⟨dx, vs, h1, h2, h3⟩ := R.ob c o ho
        have h3 := h3 hk
        subst h3
        have hvm : (o.slots.map (valV N.oa))[k]? = some (valV N.oa v) := by rw [List.getElem?_map, hv]; rfl
        have lv : Live s v := g.slots c o ho hk v (List.mem_of_getElem? hv)
        refine ⟨_, rfl, _, rfl, iteF ⟨_, rfl, N.hp, CH, dH, _, _, rfl, hH, T.cl_Heap, T.n_Heap_registers, hpF_regs .., _, rfl, N.lr, _, _, _, rfl, rfl, SqL.of R.lr, atI_nat (reg_at g hr8), N.oa c, CO, dx, _, _, (by rw [er]; rfl), h1, T.cl_HeapObject, T.n_HeapObject_slots, obF_slots .., _, rfl, N.sa c, _, _, _, rfl, rfl, SqL.of h2, atI_nat hvm, _, rfl, _, rfl, N, s, v, rfl, R, lv.at, fun H2 R2 kp2 => ?_⟩⟩
        obtain ⟨dH2, nx2, hH2, _⟩ := R2.hp
        have els : HeapNs.load s d v = (if s.phase = 1 then s.withCells (HeapNs.shade s.cells v) else s).withReg d v := rfl
        rw [els] at es
        generalize e3 : (if s.phase = 1 then s.withCells (HeapNs.shade s.cells v) else s) = s2 at R2 es
        have rl : s2.regs = s.regs := by
          rw [← e3]
          split <;> rfl
        have up : Up s.cells s2.cells := by
          rw [← e3]
          split
          · exact shade_up _ _
          · exact Up.refl _
        have bk : ∀ c o', At s2 c o' → ∃ o, At s c o := fun c o' h => let ⟨o, a, _⟩ := up.bwd h; ⟨o, a⟩
        have fw : ∀ c o, At s c o → ∃ o', At s2 c o' := fun c o h => let ⟨o', a, _⟩ := up.fwd h; ⟨o', a⟩
        refine ⟨_, rfl, _, rfl, N.hp, CH, dH2, _, _, rfl, hH2, T.cl_Heap, T.n_Heap_registers, hpF_regs .., _, rfl, N.lr, _, _, d, rfl, rfl, R2.lr, ixN_nat (by rw [List.length_map, rl, g.rlen]; exact hd8), (by show 1 ≤ sizeLine; decide), ?_⟩
        exact q.one es rfl (R2.reg d v) ((Keeps.of kp2 bk).trans (R2.reg_keeps d v _)) fun b hb => free_out (fun b fb => R2.foot (foot_at fw fb)) kp2 b (fresh_upd hb)
def spSlot (CO CH : Addr) : Sp := fun vs H Q _ => ∃ (N : Nm) (s : HS) (r k : Nat), vs = [.ref N.hp, .int r, .int k] ∧ Rep CO CH N s H ∧ Good s ∧ After CO CH N s H (.slot r k) Q
theorem ok_slot {f : Addr} {fd : FuncData} (F : Fun K "look_at_slot" "look_at_slot" st_look_at_slot f fd) (T : Txt K mg CO CH) (hReg : Has P w K mg base 1 "is_register" ["number"] spReg) (hRef : Has P w K mg base 1 "slot_refusal" ["heap", "r", "k"] (spRef CO CH))
    (hTold : Has P w K mg base 1 "told_value" ["value"] (spTold CO CH)) : FnOk P w K mg base CX0 2 f fd ["heap", "r", "k"] (spSlot CO CH) := by
  refine F.ok sc_look_at_slot (fun vs H Q E h => ?_) (fun cdv A outer s H vs Q E hr h => ?_)
  · obtain ⟨N, s, r, k, rfl, _⟩ := h
    rfl
  · obtain ⟨N, s, r, k, rfl, R, g, q⟩ := h
    refine ⟨_, pss_cons (ps_if (pt_not (pt_val (pe_h hReg hr rfl (pa_cons (pv 1) pa_nil)))) (pss_one (ps_ret (pe_lst (pa_cons (pe_gint rfl T.g_OUT_OF_RANGE) pa_nil)))) pss_nil)
      (pss_cons (ps_set (i := 3) sc_look_at_slot.nd rfl (Or.inl rfl) (pe_h hRef hr rfl (pa_cons (pv 0) (pa_cons (pv 1) (pa_cons (pv 2) pa_nil)))))
      (pss_cons (ps_if (pt_cmp (pc_notN (pv 3))) (pss_one (ps_ret (pe_lst (pa_cons (pv 3) pa_nil)))) pss_nil)
      (pss_one (ps_ret (pe_h hTold hr rfl (pa_cons (pe_ix ix_list (pe_fld (pe_ix ix_list (pe_fld (pv 0) rfl) (pv 1) (fun _ _ => rfl)) rfl) (pv 2) (fun _ _ => rfl)) pa_nil)))))), ?_⟩
    have st1 : (HeapNs.step s (.slot r k)).1 = s := rfl
    refine ⟨_, rfl, r, rfl, _, rfl, ?_⟩
    cases e : HeapNs.isReg r with
    | false =>
      have es : (HeapNs.step s (.slot r k)).2 = HeapNs.says (-1) := if_pos e
      exact iteT ⟨(by show 1 ≤ sizeLine; decide), q.still R st1 (by rw [es]; rfl)⟩
    | true =>
      have hr8 := isReg_iff.mp e
      have es : (HeapNs.step s (.slot r k)).2 = (match HeapNs.object s r with
        | none => HeapNs.says (-5)
        | some x => match x.2.slots[k]? with
          | none => HeapNs.says (-4)
          | some v => HeapNs.valAnswer s v) := if_neg (by rw [e]; decide)
      obtain ⟨dH, nx, hH, hnx⟩ := R.hp
      refine iteF ⟨_, rfl, _, rfl, _, rfl, N, s, r, k, rfl, R, g, hr8, ?_⟩
      rcases refusal_cases g hr8 k with ⟨e1, e2⟩ | ⟨c, o, er, ho, hk, hob, ⟨e1, e2⟩ | ⟨e1, e2⟩⟩
      · rw [e1] at es
        rw [e2]
        refine ⟨_, rfl, _, rfl, iteT ⟨_, rfl, (by show 1 ≤ sizeLine; decide), q.still R st1 (by rw [es]; rfl)⟩⟩
      · rw [hob] at es
        dsimp only at es
        rw [List.getElem?_eq_none e1] at es
        rw [e2]
        refine ⟨_, rfl, _, rfl, iteT ⟨_, rfl, (by show 1 ≤ sizeLine; decide), q.still R st1 (by rw [es]; rfl)⟩⟩
      · rw [hob] at es
        dsimp only at es
        have hv : o.slots[k]? = some o.slots[k] := List.getElem?_eq_getElem e1
        generalize hvv : o.slots[k] = v at hv
        rw [hv] at es
        dsimp only at es
        rw [e2]
        obtain ⟨dx, vs, h1, h2, h3⟩ := R.ob c o ho
        have h3 := h3 hk
        subst h3
        have hvm : (o.slots.map (valV N.oa))[k]? = some (valV N.oa v) := by rw [List.getElem?_map, hv]; rfl
        have lv : Live s v := g.slots c o ho hk v (List.mem_of_getElem? hv)
        refine ⟨_, rfl, _, rfl, iteF ⟨_, rfl, N.hp, CH, dH, _, _, rfl, hH, T.cl_Heap, T.n_Heap_registers, hpF_regs .., _, rfl, N.lr, _, _, _, rfl, rfl, SqL.of R.lr, atI_nat (reg_at g hr8), N.oa c, CO, dx, _, _, (by rw [er]; rfl), h1, T.cl_HeapObject, T.n_HeapObject_slots, obF_slots .., _, rfl, N.sa c, _, _, _, rfl, rfl, SqL.of h2, atI_nat hvm, N, s, v, rfl, R, lv, g, q.still R st1 (by rw [es])⟩⟩
/-! tell_same -/
def sameB : Val → Val → Bool
  | .none_, .none_ => true
  | .num x, .num y => decide (x = y)
  | .obj b, .obj c => decide (b = c)
  | _, _ => false
theorem same_step {s : HS} {r d : Nat} (hr : r < 8) (hd : d < 8) : (HeapNs.step s (.same r d)).2 = HeapNs.says (if sameB (s.reg r) (s.reg d) = true then 1 else 0) := by
  have es : (HeapNs.step s (.same r d)).2 = (match s.reg r, s.reg d with
    | .none_, .none_ => HeapNs.says 1
    | .num x, .num y => HeapNs.says (if x = y then 1 else 0)
    | .obj b, .obj c => HeapNs.says (if b = c then 1 else 0)
    | _, _ => HeapNs.says 0) := if_neg fun z => by
      rw [isReg_iff.mpr hr, isReg_iff.mpr hd] at z
      exact absurd z (by decide)
  rw [es]
  cases s.reg r <;> cases s.reg d <;> simp [sameB]
theorem eqO_val {N : Nm} {s : HS} {H : Hp} (R : Rep CO CH N s H) {u v : Val} (hu : Live s u) (hv : Live s v) : EqO CO H (valV N.oa u) (valV N.oa v) (sameB u v) := by
  have there : ∀ {c : Nat}, Live s (.obj c) → ∃ o dx, At s c o ∧ H (N.oa c) = some (.ins CO dx (obF o.colour c (N.sa c))) := fun {c} h => by
    obtain ⟨o, ho, _⟩ := h c rfl
    obtain ⟨dx, vs, h1, _⟩ := R.ob c o ho
    exact ⟨o, dx, ho, h1⟩
  cases u with
  | none_ =>
    cases v with
    | none_ => exact EqO.sc (x := .non) (y := .non) rfl
    | num y => exact EqO.sc (x := .non) (y := .int y) rfl
    | obj c => obtain ⟨o, dx, ho, h1⟩ := there hv; exact .no h1
  | num x =>
    cases v with
    | none_ => exact EqO.sc (x := .int x) (y := .non) rfl
    | num y =>
      have h := EqO.sc (C := CO) (H := H) (x := .int x) (y := .int y) rfl
      have e : decide (V.int x = V.int y) = decide (x = y) := decide_eq_decide.mpr ⟨fun z => by injection z, fun z => by rw [z]⟩
      rw [e] at h
      exact h
    | obj c => obtain ⟨o, dx, ho, h1⟩ := there hv; exact .io h1
  | obj b =>
    obtain ⟨o, dx, ho, h1⟩ := there hu
    cases v with
    | none_ => exact .on h1
    | num y => exact .oi h1
    | obj c =>
      obtain ⟨p, dy, hp, h2⟩ := there hv
      have h := EqO.oo (C := CO) h1 h2
      have e : decide (N.oa b = N.oa c) = decide (b = c) := decide_eq_decide.mpr ⟨fun z => R.oinj ho hp z, fun z => by rw [z]⟩
      rw [e] at h
      exact h
def spSame (CO CH : Addr) : Sp := fun vs H Q _ => ∃ (N : Nm) (s : HS) (r d : Nat), vs = [.ref N.hp, .int r, .int d] ∧ Rep CO CH N s H ∧ Good s ∧ After CO CH N s H (.same r d) Q
theorem ok_same {f : Addr} {fd : FuncData} (F : Fun K "tell_same" "tell_same" st_tell_same f fd) (T : Txt K mg CO CH) (hReg : Has P w K mg base 1 "is_register" ["number"] spReg) :
    FnOk P w K mg base CX0 2 f fd ["heap", "r", "d"] (spSame CO CH) := by
  refine F.ok sc_tell_same (fun vs H Q E h => ?_) (fun cdv A outer s H vs Q E hr h => ?_)
  · obtain ⟨N, s, r, d, rfl, _⟩ := h
    rfl
  · obtain ⟨N, s, r, d, rfl, R, g, q⟩ := h
    have ec : EqCls K CO := ⟨T.e1_HeapObject, T.c4_HeapObject, T.e2_HeapObject, T.e3_HeapObject, T.kitI_HeapObject, T.kitN_HeapObject⟩
    have hu := hu_of hr
    refine ⟨_, pss_cons (ps_if (PW.pt (pw_or (pt_not (pt_val (pe_h hReg hr rfl (pa_cons (pv 1) pa_nil)))) (pw_or1 (pt_not (pt_val (pe_h hReg hr rfl (pa_cons (pv 2) pa_nil))))))) (pss_one (ps_ret (pe_lst (pa_cons (pe_gint rfl T.g_OUT_OF_RANGE) pa_nil)))) pss_nil)
      (pss_cons (ps_if (pt_cmpR (op_eqO ec (Nat.lt_of_succ_lt hu)) (pe_ix ix_list (pe_fld (pv 0) rfl) (pv 1) (fun _ _ => rfl)) (pe_ix ix_list (pe_fld (pv 0) rfl) (pv 2) (fun _ _ => rfl)) (nomark _)) (pss_one (ps_ret (pe_lst (pa_cons pe_int pa_nil)))) pss_nil)
      (pss_one (ps_ret (pe_lst (pa_cons pe_int pa_nil))))), ?_⟩
    have st1 : (HeapNs.step s (.same r d)).1 = s := rfl
    have A1 : HeapNs.isReg r = false ∨ HeapNs.isReg d = false → ∀ p, H p = none → Q (.ref p) (upd H p (.lst [V.int (-1)])) := fun h => by
      have es : (HeapNs.step s (.same r d)).2 = HeapNs.says (-1) := if_pos h
      exact q.still R st1 (by rw [es]; rfl)
    refine ⟨_, rfl, r, rfl, _, rfl, ?_⟩
    refine ite2 (fun h => ?_) (fun h => ⟨_, rfl, d, rfl, _, rfl, ite2 (fun h' => ?_) (fun h' => ?_)⟩)
    · exact iteT ⟨(by show 1 ≤ sizeLine; decide), A1 (.inl (by simpa using h))⟩
    · exact ⟨(by show 1 ≤ sizeLine; decide), A1 (.inr (by simpa using h'))⟩
    · have hr8 : r < 8 := isReg_iff.mp (by simpa using h)
      have hd8 : d < 8 := isReg_iff.mp (by simpa using h')
      obtain ⟨dH, nx, hH, hnx⟩ := R.hp
      have es := same_step (s := s) hr8 hd8
      have lr : Live s (s.reg r) := g.regs _ (reg_mem (by rw [g.rlen]; exact hr8))
      have ld : Live s (s.reg d) := g.regs _ (reg_mem (by rw [g.rlen]; exact hd8))
      refine ⟨_, rfl, N.hp, CH, dH, _, _, rfl, hH, T.cl_Heap, T.n_Heap_registers, hpF_regs .., _, rfl, N.lr, _, _, _, rfl, rfl, SqL.of R.lr, atI_nat (reg_at g hr8), _, rfl, N.hp, CH, dH, _, _, rfl, hH, T.cl_Heap, T.n_Heap_registers, hpF_regs .., _, rfl, N.lr, _, _, _, rfl, rfl, SqL.of R.lr, atI_nat (reg_at g hd8), _, eqO_val R lr ld, _, rfl, ?_⟩
      cases eb : sameB (s.reg r) (s.reg d) with
      | true =>
        rw [eb, if_pos rfl] at es
        exact iteT ⟨(by show 1 ≤ sizeLine; decide), q.still R st1 (by rw [es]; rfl)⟩
      | false =>
        rw [eb, if_neg Bool.false_ne_true] at es
        exact iteF ⟨(by show 1 ≤ sizeLine; decide), q.still R st1 (by rw [es]; rfl)⟩
end
end Sw

end
section
set_option Elab.async false
set_option linter.all false
set_option maxRecDepth 100000
set_option maxHeartbeats 2000000
namespace Sw
open PySem PySem.Spec PyProof.Rows L2
open HeapNs (Val)
open PySem.W (Codec)
/-- what is taken up left as it was -/
theorem Rep.frame {CO CH : Addr} {N : Nm} {s : HS} {H H' : Hp} (R : Rep CO CH N s H) (e : ∀ b, Foot N s b → H' b = H b) : Rep CO CH N s H' := by
  obtain ⟨⟨dH, nx, h1, h1n⟩, ⟨xs, h2, h3, h4⟩, h5, h6, h7, h8, h9⟩ := R
  refine ⟨⟨dH, nx, (e _ (.inl rfl)).trans h1, h1n⟩, ⟨xs, (e _ (.inr (.inl rfl))).trans h2, h3, h4⟩, (e _ (.inr (.inr (.inl rfl)))).trans h5, fun c o h => ?_, h7, h8, h9⟩
  obtain ⟨dx, vs, g1, g2, g3⟩ := h6 c o h
  exact ⟨dx, vs, (e _ (.inr (.inr (.inr ⟨c, o, h, .inr rfl⟩)))).trans g1, (e _ (.inr (.inr (.inr ⟨c, o, h, .inl rfl⟩)))).trans g2, g3⟩
/-- the objects met, as Python's list has them; the cells seen, as its dict has them -/
def metV (N : Nm) (ms : List Nat) : List V := ms.map fun c => .ref (N.oa c)
def seenV (ms : List Nat) : List (Key × V) := ms.map fun (c : Nat) => (Sum.inl (c : Int), .bl true)
theorem seen_in (ms : List Nat) (c : Nat) : (L2.valV (seenV ms) (Sum.inl (c : Int))).isSome = ms.contains c := by
  rw [← valV_any, Bool.eq_iff_iff, List.any_eq_true, List.contains_iff_mem]
  constructor
  · rintro ⟨x, hx, e⟩
    obtain ⟨d, hd, rfl⟩ := List.mem_map.mp hx
    have e := Sum.inl.inj (of_decide_eq_true e)
    have e : d = c := by omega
    rw [← e]; exact hd
  · intro h
    exact ⟨_, List.mem_map.mpr ⟨c, h, rfl⟩, decide_eq_true rfl⟩
theorem seen_put {ms : List Nat} {c : Nat} (h : ms.contains c = false) : putK (seenV ms) (Sum.inl (c : Int)) (.bl true) = seenV (ms ++ [c]) := by
  rw [putK_new]
  · unfold seenV
    rw [List.map_append]
    rfl
  · have e := seen_in ms c
    rw [h] at e
    cases z : L2.valV (seenV ms) (Sum.inl (c : Int)) with
    | none => rfl
    | some v => rw [z] at e; cases e
theorem addAll_take {l : List (Option OB)} {ms : List Nat} {vs : List Val} {i : Nat} {v : Val} (hv : vs[i]? = some v) : addAll l ms (vs.take (i + 1)) = addOne l (addAll l ms (vs.take i)) v := by
  rw [List.take_add_one, hv]
  exact addAll_append l ms (vs.take i) [v]
section
variable {P : Program} {w : World} {K : PySem.W.Frag} {mg : Str → Option Value} {base : Heap} {CO CH : Addr}
def spMeet (CO CH : Addr) : Sp := fun vs H Q _ => ∃ (N : Nm) (s : HS) (us : List Val) (ms : List Nat) (a m d : Addr), vs = [.ref a, .ref m, .ref d] ∧ Rep CO CH N s H ∧ s.cells.length = 64 ∧ H a = some (.lst (us.map (valV N.oa))) ∧ H m = some (.lst (metV N ms)) ∧ H d = some (.dK (seenV ms)) ∧
  a ≠ m ∧ ¬ Foot N s m ∧ ¬ Foot N s d ∧ (∀ v ∈ us, ∀ c, v = .obj c → ∃ o, At s c o) ∧ Met s.cells ms ∧
  ∀ H', (∀ b, b ≠ m → b ≠ d → H' b = H b) → H' m = some (.lst (metV N (addAll s.cells ms us))) → H' d = some (.dK (seenV (addAll s.cells ms us))) → Q .non H'
theorem ok_meet {f : Addr} {fd : FuncData} (F : Fun K "meet" "meet" st_meet f fd) (T : Txt K mg CO CH) : FnOk P w K mg base CX0 1 f fd ["values", "met", "seen"] (spMeet CO CH) := by
  refine F.ok sc_meet (fun vs H Q E h => ?_) (fun cdv A outer s H vs Q E hr h => ?_)
  · obtain ⟨N, s, us, ms, a, m, d, rfl, _⟩ := h
    rfl
  · obtain ⟨N, s, us, ms, a, m, d, rfl, R, hl, ha, hm, hd, nam, fm, fd', hv, M0, q⟩ := h
    have hu := hu_of hr
    refine ⟨_, pss_one (ps_for PassesOwn.never rfl (pi_list (pv 0)) (pg_name (i := 3) sc_meet.nd rfl (Or.inl rfl))
      (pss_one (ps_if (PW.pt (pw_and (pt_val (pe_callB call_isi (by rfl) T.b_isinstance boot_isi (pa_cons (pv 3) (pa_cons (pe_glob (v := .ref CO) rfl T.mg_HeapObject rfl) pa_nil)))) (pw_and1 (pt_cmp (pc_dnotin hu (pe_fld (pv 3) rfl) (pv 2))))))
        (pss_cons (ps_dput hu (pv 2) (pe_fld (pv 3) rfl) pe_bl rfl) (pss_one (ps_expr (pe_bm PySem.F.plainAttrs_list PySem.F.slot_list_append PySem.F.type_list_append mt_append (pv 1) (pa_cons (pv 3) pa_nil))))) pss_nil))), ?_⟩
    have nad : a ≠ d := ne_of ha hd (by intro z; cases z)
    have nmd : m ≠ d := ne_of hm hd (by intro z; cases z)
    refine ⟨_, rfl, a, rfl, ⟨_, SqL.of ha⟩, for_list (xs := us.map (valV N.oa)) (fun i σ H' => ∃ v, σ = [some (.ref a), some (.ref m), some (.ref d), v] ∧ (∀ b, b ≠ m → b ≠ d → H' b = H b) ∧ H' m = some (.lst (metV N (addAll s.cells ms (us.take i)))) ∧ H' d = some (.dK (seenV (addAll s.cells ms (us.take i))))) ⟨none, rfl, fun _ _ _ => rfl, by rw [List.take_zero]; exact hm, by rw [List.take_zero]; exact hd⟩ ?_ ?_ ?_⟩
    · rintro i σ H' hi ⟨v, rfl, kp, h1, h2⟩
      exact SqL.of ((kp a nam nad).trans ha)
    · rintro i x σ H' hx ⟨v, rfl, kp, h1, h2⟩
      rw [List.getElem?_map] at hx
      obtain ⟨u, hui, rfl⟩ := Option.map_eq_some_iff.mp hx
      have R' : Rep CO CH N s H' := R.frame fun b fb => kp b (fun z => fm (by rw [← z]; exact fb)) fun z => fd' (by rw [← z]; exact fb)
      have hvu := hv u (List.mem_of_getElem? hui)
      obtain ⟨t, ty, kt⟩ := ty_val T R' hvu
      have et := addAll_take (l := s.cells) (ms := ms) hui
      have Mi : Met s.cells (addAll s.cells ms (us.take i)) := M0.all _
      generalize eT : addAll s.cells ms (us.take i) = T0 at *
      have l64 := Mi.le hl
      have hsl : sizeLine = 16777216 := sizeLine_eq
      cases u with
      | none_ => exact ⟨_, rfl, _, t, _, CO, rfl, ty, kt, _, rfl, iteF (iteF ⟨_, rfl, kp, by rw [et]; exact h1, by rw [et]; exact h2⟩)⟩
      | num z => exact ⟨_, rfl, _, t, _, CO, rfl, ty, kt, _, rfl, iteF (iteF ⟨_, rfl, kp, by rw [et]; exact h1, by rw [et]; exact h2⟩)⟩
      | obj c =>
        obtain ⟨o, ho⟩ := hvu c rfl
        obtain ⟨dx, vs, g1, g2, g3⟩ := R'.ob c o ho
        have fo : Foot N s (N.oa c) := .inr (.inr (.inr ⟨c, o, ho, .inr rfl⟩))
        have nod : N.oa c ≠ d := fun z => fd' (by rw [← z]; exact fo)
        refine ⟨_, rfl, _, t, _, CO, rfl, ty, kt, _, rfl, iteT ⟨_, rfl, N.oa c, CO, dx, _, _, rfl, g1, T.cl_HeapObject, T.n_HeapObject_cell, obF_cell .., _, rfl, d, _, rfl, DGet.k (k := Sum.inl (c : Int)) h2, _, rfl, ?_⟩⟩
        rw [seen_in]
        cases ec : T0.contains c with
        | true =>
          have e1 : addOne s.cells T0 (.obj c) = T0 := by
            unfold addOne; dsimp only; rw [if_pos ec]
          rw [e1] at et
          exact iteF ⟨_, rfl, kp, by rw [et]; exact h1, by rw [et]; exact h2⟩
        | false =>
          have e1 : addOne s.cells T0 (.obj c) = T0 ++ [c] := by
            unfold addOne; dsimp only; rw [if_neg (by rw [ec]; exact Bool.false_ne_true), getD_of ho]
          rw [e1] at et
          refine iteT ⟨_, rfl, _, rfl, N.oa c, CO, dx, _, _, rfl, g1, T.cl_HeapObject, T.n_HeapObject_cell, obF_cell .., d, _, rfl, DPut.k (k := Sum.inl (c : Int)) h2 (by rw [show (seenV T0).length = T0.length from List.length_map _]; omega), ?_⟩
          refine ⟨_, rfl, .inl ⟨rfl, _, SqL.of (by rw [upd_ne nmd]; exact h1)⟩, _, rfl, m, _, _, rfl, rfl, (by rw [upd_ne nmd]; exact h1), (by rw [show (metV N T0).length = T0.length from List.length_map _]; omega), ?_⟩
          refine ⟨_, rfl, fun b n1 n2 => ?_, ?_, ?_⟩
          · rw [upd_ne n1, upd_ne n2]; exact kp b n1 n2
          · rw [upd_same, et]
            unfold metV
            rw [List.map_append]
            rfl
          · rw [upd_ne nmd.symm, upd_same, et, seen_put ec]
    · rintro σ H' ⟨v, rfl, kp, h1, h2⟩
      rw [List.length_map, List.take_length] at h1 h2
      exact q H' kp h1 h2
theorem addAll_all {l : List (Option OB)} {p : Nat → Prop} : ∀ (vs : List Val) (ms : List Nat), (∀ c ∈ ms, p c) → (∀ v ∈ vs, ∀ c, v = .obj c → p c) → ∀ c ∈ addAll l ms vs, p c
  | [], ms, h, _ => h
  | v :: vs, ms, h, hv => by
    rw [addAll_cons]
    refine addAll_all vs _ ?_ fun u hu => hv u (List.mem_cons_of_mem _ hu)
    intro c hc
    cases v with
    | none_ => exact h c hc
    | num z => exact h c hc
    | obj e =>
      unfold addOne at hc
      dsimp only at hc
      split at hc
      · exact h c hc
      · split at hc
        · rcases List.mem_append.mp hc with hc | hc
          · exact h c hc
          · rw [List.mem_singleton] at hc
            exact hv _ List.mem_cons_self c (by rw [hc])
        · exact h c hc
def spMets (CO CH : Addr) : Sp := fun vs H Q _ => ∃ (N : Nm) (s : HS) (us : List Val) (a : Addr), vs = [.ref a] ∧ Rep CO CH N s H ∧ Good s ∧ H a = some (.lst (us.map (valV N.oa))) ∧ us.length ≤ 8 ∧ (∀ v ∈ us, Live s v) ∧
  ∀ H' m, Same H H' → H m = none → H' m = some (.lst (metV N (s.from_ us))) → (∀ c ∈ s.from_ us, ∃ o, At s c o ∧ Kept s c o) → Q (.ref m) H'
def goneOf (σ : L2.St) : Nat := match (σ[3]? : Option (Option V)) with
  | some (some (V.int i)) => 64 - i.toNat
  | _ => 0
theorem ok_mets {f : Addr} {fd : FuncData} (F : Fun K "objects_met" "objects_met" st_objects_met f fd) (T : Txt K mg CO CH) (hM : Has P w K mg base 1 "meet" ["values", "met", "seen"] (spMeet CO CH)) : FnOk P w K mg base CX0 2 f fd ["values"] (spMets CO CH) := by
  refine F.ok sc_objects_met (fun vs H Q E h => ?_) (fun cdv A outer s H vs Q E hr h => ?_)
  · obtain ⟨N, s, us, a, rfl, _⟩ := h
    rfl
  · obtain ⟨N, s, us, a, rfl, R, g, ha, hu8, hlv, q⟩ := h
    refine ⟨_, pss_cons (ps_set (i := 1) sc_objects_met.nd rfl (Or.inl rfl) (pe_lst pa_nil))
      (pss_cons (ps_set (i := 2) sc_objects_met.nd rfl (Or.inl rfl) pe_dnewK)
      (pss_cons (ps_expr (pe_h hM hr rfl (pa_cons (pv 0) (pa_cons (pv 1) (pa_cons (pv 2) pa_nil)))))
      (pss_cons (ps_set (i := 3) sc_objects_met.nd rfl (Or.inl rfl) pe_int)
      (pss_cons (ps_while PassesOwn.never (pt_cmpR op_lt (pv 3) (pe_callB call_len_seq (by rfl) T.b_len PySem.boot_len (pa_cons (pv 1) pa_nil)) (nomark _))
        (pss_cons (ps_expr (pe_h hM hr rfl (pa_cons (pe_fld (pe_ix ix_list (pv 1) (pv 3) (fun _ _ => rfl)) rfl) (pa_cons (pv 1) (pa_cons (pv 2) pa_nil)))))
        (pss_one (ps_aug (i := 3) sc_objects_met.nd rfl (Or.inl rfl) pe_int ip_add))))
      (pss_one (ps_ret (pv 1))))))), ?_⟩
    refine ⟨Nat.zero_le _, fun m hm => fun d hd => ?_⟩
    have hd0 : H d = none := fresh_upd hd
    have nmd : m ≠ d := fun z => by rw [← z, upd_same] at hd; cases hd
    have s1 : Same H (upd (upd H m (.lst [])) d (.dK [])) := (Same.upd hm).trans (Same.upd hd)
    have fm : ¬ Foot N s m := R.fresh hm
    have fd' : ¬ Foot N s d := R.fresh hd0
    have hl64 := g.len
    have hs8 : ∀ (c : Nat) (o : OB), s.cells[c]? = some (some o) → o.slots.length ≤ 8 := fun c o h => (g.sl c o h).2
    refine ⟨_, rfl, _, rfl, _, rfl, N, s, us, [], a, m, d, rfl, R.same s1, hl64, s1 _ _ ha, by rw [upd_ne nmd, upd_same]; rfl, upd_same, ne_of_none ha hm, fm, fd', fun v hv => (hlv v hv).at, Met.nil _, fun H1 kp1 m1 d1 => ?_⟩
    have sm1 : Same H H1 := fun b o hb => by
      rw [kp1 b (ne_of_none hb hm) (ne_of_none hb hd0)]
      exact s1 b o hb
    refine while_by (fun σ H' => ∃ (i : Nat) (ms : List Nat), σ = [some (.ref a), some (.ref m), some (.ref d), some (.int i)] ∧ Same H H' ∧ H' m = some (.lst (metV N ms)) ∧ H' d = some (.dK (seenV ms)) ∧ Walk s.cells (s.from_ us) ms i ∧ ∀ c ∈ ms, ∃ o, At s c o ∧ Kept s c o) (fun σ _ => goneOf σ)
      ⟨0, addAll s.cells [] us, rfl, sm1, m1, d1, Walk.start hu8, addAll_all us [] (fun c h => nomatch h) fun v hv c e => hlv v hv c e⟩ ?_ ?_
    · rintro σ H' ⟨i, ms, rfl, sm, hm', hd', W, hk⟩
      have R' : Rep CO CH N s H' := R.same sm
      have l64 := W.ok.le hl64
      have eL : (metV N ms).length = ms.length := List.length_map _
      refine ⟨_, rfl, _, rfl, m, _, rfl, .inl (SqL.of hm'), _, _, rfl, rfl, _, rfl, ?_⟩
      rw [eL]
      by_cases hi : i < ms.length
      · rw [decide_eq_true (show (i : Int) < (ms.length : Nat) by omega)]
        have hci : ms[i]? = some ms[i] := List.getElem?_eq_getElem hi
        generalize ms[i] = c at hci
        obtain ⟨o, ho, hko⟩ := hk c (List.mem_of_getElem? hci)
        obtain ⟨dx, vs, g1, g2, g3⟩ := R'.ob c o ho
        have g3 := g3 hko
        subst g3
        have esl : slotsOf s.cells c = o.slots := by
          unfold slotsOf
          rw [getD_of ho]
        have hcm : (metV N ms)[i]? = some (.ref (N.oa c)) := by
          unfold metV
          rw [List.getElem?_map, hci]
          rfl
        have W2 := W.next hl64 hs8 hci
        rw [esl] at W2
        have fsa : Foot N s (N.sa c) := .inr (.inr (.inr ⟨c, o, ho, .inl rfl⟩))
        refine iteT ⟨_, rfl, _, rfl, m, _, _, _, rfl, rfl, SqL.of hm', atI_nat hcm, N.oa c, CO, dx, _, _, rfl, g1, T.cl_HeapObject, T.n_HeapObject_slots, obF_slots .., _, rfl, _, rfl, N, s, o.slots, ms, N.sa c, m, d, rfl, R', hl64, g2, hm', hd', fun z => fm (by rw [← z]; exact fsa), fm, fd', fun v hv => (g.slots c o ho hko v hv).at, W.ok, fun H2 kp2 m2 d2 => ?_⟩
        refine ⟨_, rfl, _, _, rfl, rfl, ⟨i + 1, addAll s.cells ms o.slots, rfl, fun b o' hb => ?_, m2, d2, W2, addAll_all o.slots ms hk fun v hv e ee => g.slots c o ho hko v hv e ee⟩, ?_⟩
        · rw [kp2 b (ne_of_none hb hm) (ne_of_none hb hd0)]
          exact sm b o' hb
        · show 64 - ((i : Int) + 1).toNat < 64 - (i : Int).toNat
          omega
      · rw [decide_eq_false (show ¬ (i : Int) < (ms.length : Nat) by omega)]
        have ei : i = ms.length := by have := W.le; omega
        subst ei
        have ed := W.done
        refine iteF ⟨_, rfl, q H' m sm hm ?_ ?_⟩
        · rw [ed]; exact hm'
        · rw [ed]; exact hk
    · rintro σ H' Q1 Q2 hq ⟨v, e1, v2, e2, p, ys, e3, e4, i, j, e5, e6, kk, e7, e8⟩
      exact ⟨v, e1, v2, e2, p, ys, e3, e4, i, j, e5, e6, kk, e7, hq _ _ e8⟩
end
end Sw

end
section
set_option Elab.async false
set_option linter.all false
set_option maxRecDepth 100000
set_option maxHeartbeats 2000000
namespace Sw
open PySem PySem.Spec PyProof.Rows L2
open HeapNs (Val)
open PySem.W (Codec)
theorem After.quiet {CO CH : Addr} {N : Nm} {s : HS} {H H' : Hp} {c : HeapNs.Call} {Q : VK} {p : Addr} {xs : List V} (a : After CO CH N s H c Q) (R : Rep CO CH N s H) (hs : (HeapNs.step s c).1 = s) (sm : Same H H') (hp : H p = none) (h : H' p = some (.lst xs)) (hx : xs = (HeapNeutral.shown (HeapNs.step s c).2).map V.int) : Q (.ref p) H' := by
  refine a N H' p rfl ?_ ?_ hp (by rw [← hx]; exact h) ?_
  · rw [hs]; exact R.same sm
  · rw [hs]; exact (Keeps.refl _ _ _).same sm
  · rw [hs]; exact R.fresh hp
theorem same_upd2 {H H' : Hp} {p : Addr} {o : HO} (e : Same H H') (h : H p = none) : Same H (upd H' p o) := fun b u hb => by
  rw [upd_ne (ne_of_none hb h)]
  exact e b u hb
theorem putK_len {kvs : List (Key × V)} {k : Key} {v : V} : (putK kvs k v).length ≤ kvs.length + 1 := by
  unfold putK
  split
  · rw [List.length_map]; omega
  · rw [List.length_append]; exact Nat.le_refl _
theorem nodup_at {ms : List Nat} (h : ms.Nodup) {i j c : Nat} (hi : ms[i]? = some c) (hj : ms[j]? = some c) : i = j := by
  obtain ⟨a1, a2⟩ := List.getElem?_eq_some_iff.mp hi
  obtain ⟨b1, b2⟩ := List.getElem?_eq_some_iff.mp hj
  have p := List.pairwise_iff_getElem.mp h
  rcases Nat.lt_trichotomy i j with z | z | z
  · exact absurd (a2.trans b2.symm) (p i j a1 b1 z)
  · exact z
  · exact absurd (b2.trans a2.symm) (p j i b1 a1 z)
theorem idx_at {ms : List Nat} {c : Nat} (h : c ∈ ms) : ms[ms.idxOf c]? = some c := by
  have hl : ms.idxOf c < ms.length := List.idxOf_lt_length_iff.mpr h
  rw [List.getElem?_eq_getElem hl]
  exact congrArg some (List.getElem_idxOf hl)
/-- what is in the slots of what is met is met, too -/
def Clo (l : List (Option OB)) (ms : List Nat) (c : Nat) : Prop := ∀ v ∈ slotsOf l c, ∀ e, v = Val.obj e → (∃ p, l[e]? = some (some p)) → e ∈ ms
theorem addAll_sub {l : List (Option OB)} {ms : List Nat} {vs : List Val} {c : Nat} (h : c ∈ ms) : c ∈ addAll l ms vs := by
  obtain ⟨t, e⟩ := addAll_pre l vs ms
  rw [e]
  exact List.mem_append_left _ h
theorem addAll_in {l : List (Option OB)} : ∀ (vs : List Val) (ms : List Nat) (e : Nat) (p : OB), Val.obj e ∈ vs → l[e]? = some (some p) → e ∈ addAll l ms vs
  | [], ms, e, p, h, _ => nomatch h
  | v :: vs, ms, e, p, h, hp => by
    rw [addAll_cons]
    rcases List.mem_cons.mp h with h | h
    · subst h
      refine addAll_sub ?_
      unfold addOne
      dsimp only
      by_cases hc : ms.contains e = true
      · rw [if_pos hc]
        exact List.contains_iff_mem.mp hc
      · rw [if_neg hc, getD_of hp]
        exact List.mem_append_right _ (List.mem_singleton.mpr rfl)
    · exact addAll_in vs _ e p h hp
theorem walk_closed {l : List (Option OB)} {goal : List Nat} (hl : l.length = 64) (hs : ∀ (c : Nat) (o : OB), l[c]? = some (some o) → o.slots.length ≤ 8) : ∀ (n i : Nat) (ms : List Nat), 64 - i ≤ n → Walk l goal ms i → (∀ (j c : Nat), j < i → ms[j]? = some c → Clo l ms c) → ∀ c ∈ goal, Clo l goal c
  | n, i, ms, hn, W, h => by
    have m64 := W.ok.le hl
    by_cases hi : i < ms.length
    · have hci : ms[i]? = some ms[i] := List.getElem?_eq_getElem hi
      generalize ms[i] = c at hci
      have W2 := W.next hl hs hci
      obtain ⟨t, et⟩ := addAll_pre l (slotsOf l c) ms
      match n, hn with
      | 0, hn => omega
      | n + 1, hn =>
        refine walk_closed hl hs n (i + 1) _ (by omega) W2 fun j d hj hd => ?_
        by_cases hji : j = i
        · subst hji
          rw [et, List.getElem?_append_left hi, hci] at hd
          rw [← Option.some.inj hd]
          exact fun v hv e ee ⟨p, hp⟩ => addAll_in _ _ e p (by rw [← ee]; exact hv) hp
        · rw [et, List.getElem?_append_left (by omega)] at hd
          exact fun v hv e ee hp => addAll_sub (h j d (by omega) hd v hv e ee hp)
    · have ei : i = ms.length := by have := W.le; omega
      subst ei
      rw [W.done]
      intro c hc
      obtain ⟨j, hj⟩ := List.getElem?_of_mem hc
      exact h j c (List.getElem?_eq_some_iff.mp hj).1 hj
theorem from_closed {s : HS} (g : Good s) {us : List Val} (hu : us.length ≤ 8) : ∀ c ∈ s.from_ us, ∀ o, At s c o → ∀ v ∈ o.slots, ∀ e, v = .obj e → (∃ p, At s e p) → e ∈ s.from_ us := fun c hc o ho v hv e ee hp => by
  refine walk_closed g.len (fun c o h => (g.sl c o h).2) 64 0 _ (by omega) (Walk.start hu) (fun j c hj => absurd hj (Nat.not_lt_zero j)) c hc v ?_ e ee hp
  unfold slotsOf
  rw [getD_of ho]
  exact hv
/-- what tree tells of the object in cell c -/
def one (s : HS) (ms : List Nat) (c : Nat) : List Int := match s.cell c with
  | some o => ((o.slots.length : Nat) : Int) :: o.slots.flatMap (HeapNs.valNums ms)
  | none => []
theorem one_at {s : HS} {ms : List Nat} {c : Nat} {o : OB} (h : At s c o) : one s ms c = ((o.slots.length : Nat) : Int) :: o.slots.flatMap (HeapNs.valNums ms) := by
  unfold one
  rw [cell_eq h]
theorem one_len {s : HS} (g : Good s) (ms : List Nat) (c : Nat) : (one s ms c).length ≤ 17 := by
  unfold one
  cases e : s.cell c with
  | none => exact Nat.zero_le _
  | some o =>
    have h1 := (g.sl c o (cell_some e)).2
    have h2 := flatMap_le (n := 2) (f := HeapNs.valNums ms) o.slots fun v _ => by rw [valNums_len]; exact Nat.le_refl _
    show _ + 1 ≤ 17
    omega
theorem tree_one (s : HS) (v : Val) : HeapNs.treeNums s v = (s.from_ [v]).flatMap (one s (s.from_ [v])) := rfl
theorem fm_take {α β : Type} {f : α → List β} {l : List α} {i : Nat} {x : α} (h : l[i]? = some x) : (l.take (i + 1)).flatMap f = (l.take i).flatMap f ++ f x := by
  rw [List.take_add_one, h, List.flatMap_append]
  simp
section
variable {P : Program} {w : World} {K : PySem.W.Frag} {mg : Str → Option Value} {base : Heap} {CO CH : Addr}
def spTT (CO CH : Addr) : Sp := fun vs H Q _ => ∃ (N : Nm) (s : HS) (v : Val) (kvs : List (Key × V)) (ms : List Nat) (d : Addr), vs = [valV N.oa v, .ref d] ∧ Rep CO CH N s H ∧ (∀ c, v = .obj c → ∃ o, At s c o) ∧ H d = some (.dK kvs) ∧
  (∀ c, v = .obj c → L2.valV kvs (Sum.inl (c : Int)) = some (.int ((ms.idxOf c : Nat) : Int))) ∧ ∀ p, H p = none → Q (.ref p) (upd H p (.lst ((HeapNs.valNums ms v).map V.int)))
theorem ok_tt {f : Addr} {fd : FuncData} (F : Fun K "told_in_tree" "told_in_tree" st_told_in_tree f fd) (T : Txt K mg CO CH) : FnOk P w K mg base CX0 1 f fd ["value", "places"] (spTT CO CH) := by
  refine F.ok sc_told_in_tree (fun vs H Q E h => ?_) (fun cdv A outer s H vs Q E hr h => ?_)
  · obtain ⟨N, s, v, kvs, ms, d, rfl, _⟩ := h
    rfl
  · obtain ⟨N, s, v, kvs, ms, d, rfl, R, hv, hd, hk, q⟩ := h
    have hu := hu_of hr
    refine ⟨_, pss_cons (ps_if (pt_cmp (pc_isN (pv 0))) (pss_one (ps_ret (pe_lst (pa_cons pe_int (pa_cons pe_int pa_nil))))) pss_nil)
      (pss_cons (ps_if (pt_val (pe_callB call_isi (by rfl) T.b_isinstance boot_isi (pa_cons (pv 0) (pa_cons (pe_glob (v := .ref CO) rfl T.mg_HeapObject rfl) pa_nil))))
        (pss_one (ps_ret (pe_lst (pa_cons pe_int (pa_cons (pe_dget hu (pv 1) (pe_fld (pv 0) rfl) (fun _ _ => rfl)) pa_nil))))) pss_nil)
      (pss_one (ps_ret (pe_lst (pa_cons pe_int (pa_cons (pv 0) pa_nil)))))), ?_⟩
    obtain ⟨t, ty, kt⟩ := ty_val T R hv
    cases v with
    | none_ => exact ⟨_, rfl, _, rfl, iteT ⟨(by show 2 ≤ sizeLine; decide), q⟩⟩
    | num z => exact ⟨_, rfl, _, rfl, iteF ⟨_, rfl, _, t, _, CO, rfl, ty, kt, _, rfl, iteF ⟨_, rfl, (by show 2 ≤ sizeLine; decide), q⟩⟩⟩
    | obj c =>
      obtain ⟨o, ho⟩ := hv c rfl
      obtain ⟨dx, vs, h1, h2, h3⟩ := R.ob c o ho
      have hg : DGet H d (kV (Sum.inl (c : Int))) (some (.int ((ms.idxOf c : Nat) : Int))) := by
        have := DGet.k (k := Sum.inl (c : Int)) hd
        rw [hk c rfl] at this
        exact this
      exact ⟨_, rfl, _, rfl, iteF ⟨_, rfl, _, t, _, CO, rfl, ty, kt, _, rfl, iteT ⟨_, rfl, _, rfl, N.oa c, CO, dx, _, _, rfl, h1, T.cl_HeapObject, T.n_HeapObject_cell, obF_cell .., d, _, rfl, hg, (by show 2 ≤ sizeLine; decide), q⟩⟩⟩
def spTree (CO CH : Addr) : Sp := fun vs H Q _ => ∃ (N : Nm) (s : HS) (r : Nat), vs = [.ref N.hp, .int r] ∧ Rep CO CH N s H ∧ Good s ∧ After CO CH N s H (.tree r) Q
theorem ok_tree {f : Addr} {fd : FuncData} (F : Fun K "tell_tree" "tell_tree" st_tell_tree f fd) (T : Txt K mg CO CH) (hReg : Has P w K mg base 2 "is_register" ["number"] spReg) (hMs : Has P w K mg base 2 "objects_met" ["values"] (spMets CO CH)) (hTT : Has P w K mg base 2 "told_in_tree" ["value", "places"] (spTT CO CH)) :
    FnOk P w K mg base CX0 3 f fd ["heap", "r"] (spTree CO CH) := by
  refine F.ok sc_tell_tree (fun vs H Q E h => ?_) (fun cdv A outer s H vs Q E hr h => ?_)
  · obtain ⟨N, s, r, rfl, _⟩ := h
    rfl
  · obtain ⟨N, s, r, rfl, R, g, q⟩ := h
    have hu := hu_of hr
    refine ⟨_, pss_cons (ps_if (pt_not (pt_val (pe_h hReg hr rfl (pa_cons (pv 1) pa_nil)))) (pss_one (ps_ret (pe_lst (pa_cons (pe_gint rfl T.g_OUT_OF_RANGE) pa_nil)))) pss_nil)
      (pss_cons (ps_set (i := 2) sc_tell_tree.nd rfl (Or.inl rfl) (pe_h hMs hr rfl (pa_cons (pe_lst (pa_cons (pe_ix ix_list (pe_fld (pv 0) rfl) (pv 1) (fun _ _ => rfl)) pa_nil)) pa_nil)))
      (pss_cons (ps_set (i := 3) sc_tell_tree.nd rfl (Or.inl rfl) pe_dnewK)
      (pss_cons (ps_for PassesOwn.never rfl (pi_range1 rfl T.b_range (pa_cons (pe_callB call_len_seq (by rfl) T.b_len PySem.boot_len (pa_cons (pv 2) pa_nil)) pa_nil)) (pg_name (i := 4) sc_tell_tree.nd rfl (Or.inl rfl))
        (pss_one (ps_dput hu (pv 3) (pe_fld (pe_ix ix_list (pv 2) (pv 4) (fun _ _ => rfl)) rfl) (pv 4) rfl)))
      (pss_cons (ps_set (i := 5) sc_tell_tree.nd rfl (Or.inl rfl) (pe_lst pa_nil))
      (pss_cons (ps_for PassesOwn.never rfl (pi_list (pv 2)) (pg_name (i := 6) sc_tell_tree.nd rfl (Or.inl rfl))
        (pss_cons (ps_expr (pe_bm PySem.F.plainAttrs_list PySem.F.slot_list_append PySem.F.type_list_append mt_append (pv 5) (pa_cons (pe_callB call_len_seq (by rfl) T.b_len PySem.boot_len (pa_cons (pe_fld (pv 6) rfl) pa_nil)) pa_nil)))
        (pss_one (ps_for PassesOwn.never rfl (pi_list (pe_fld (pv 6) rfl)) (pg_name (i := 7) sc_tell_tree.nd rfl (Or.inl rfl))
          (pss_one (ps_expr (pe_bm PySem.F.plainAttrs_list PySem.F.slot_list_extend PySem.F.type_list_extend mt_extend (pv 5) (pa_cons (pe_h hTT hr rfl (pa_cons (pv 7) (pa_cons (pv 3) pa_nil))) pa_nil))))))))
      (pss_one (ps_ret (pe_op op_cat (pe_lst (pa_cons (pe_callB call_len_seq (by rfl) T.b_len PySem.boot_len (pa_cons (pv 2) pa_nil)) (pa_cons (pe_callB call_len_seq (by rfl) T.b_len PySem.boot_len (pa_cons (pv 5) pa_nil)) pa_nil))) (pv 5))))))))), ?_⟩
    have st1 : (HeapNs.step s (.tree r)).1 = s := rfl
    refine ⟨_, rfl, r, rfl, _, rfl, ?_⟩
    cases e : HeapNs.isReg r with
    | false =>
      have es : (HeapNs.step s (.tree r)).2 = HeapNs.says (-1) := if_pos e
      exact iteT ⟨(by show 1 ≤ sizeLine; decide), q.still R st1 (by rw [es]; rfl)⟩
    | true =>
      have hr8 := isReg_iff.mp e
      have es : (HeapNs.step s (.tree r)).2 = ⟨((s.from_ [s.reg r]).length : Nat), [HeapNs.treeNums s (s.reg r)]⟩ := if_neg (by rw [e]; decide)
      obtain ⟨dH, nx, hH, hnx⟩ := R.hp
      have lv : Live s (s.reg r) := g.regs _ (reg_mem (by rw [g.rlen]; exact hr8))
      refine iteF ⟨_, rfl, N.hp, CH, dH, _, _, rfl, hH, T.cl_Heap, T.n_Heap_registers, hpF_regs .., _, rfl, N.lr, _, _, _, rfl, rfl, SqL.of R.lr, atI_nat (reg_at g hr8), (by show 1 ≤ sizeLine; decide), fun l1 hl1 => ?_⟩
      refine ⟨N, s, [s.reg r], l1, rfl, R.same (Same.upd hl1), g, upd_same, by show 1 ≤ 8; decide, fun v hv => by rw [List.mem_singleton] at hv; rw [hv]; exact lv, fun H2 m sm2 hm hm2 hkm => ?_⟩
      have smA : Same H H2 := (Same.upd hl1).trans sm2
      have hM := reach_met (l := s.cells) HeapNs.ENOUGH [] [s.reg r] (Met.nil _)
      have hM : Met s.cells (s.from_ [s.reg r]) := hM
      rw [tree_one] at es
      -- what is told of each place: told in one go
      generalize ems : s.from_ [s.reg r] = ms at *
      have l64 : ms.length ≤ 64 := hM.le g.len
      have hsl : sizeLine = 16777216 := sizeLine_eq
      have eL : (metV N ms).length = ms.length := List.length_map _
      have cl : ∀ (i c : Nat), ms[i]? = some c → (metV N ms)[i]? = some (.ref (N.oa c)) := fun i c h => by
        unfold metV
        rw [List.getElem?_map, h]
        rfl
      intro d hd
      have sm3 : Same H2 (upd H2 d (.dK [])) := Same.upd hd
      refine ⟨_, rfl, m, _, rfl, .inl (SqL.of (sm3 _ _ hm2)), ((metV N ms).length : Int), rfl, by omega, by omega, ?_⟩
      rw [eL, Int.toNat_natCast]
      refine for_range (n := ms.length) (fun i σ H' => ∃ v kvs, σ = [some (.ref N.hp), some (.int r), some (.ref m), some (.ref d), v, none, none, none] ∧ Same H2 H' ∧ H' d = some (.dK kvs) ∧ kvs.length ≤ i ∧ ∀ (j c : Nat), j < i → ms[j]? = some c → L2.valV kvs (Sum.inl (c : Int)) = some (.int (j : Nat))) ⟨none, [], rfl, sm3, upd_same, Nat.le_refl _, fun j c hj => absurd hj (Nat.not_lt_zero j)⟩ ?_ ?_
      · rintro i σ H' hi ⟨v, kvs, rfl, sm, hd', hkl, hkv⟩
        have e0 : (0 : Int) + (i : Nat) = (i : Int) := Int.zero_add _
        have hci : ms[i]? = some ms[i] := List.getElem?_eq_getElem hi
        generalize ms[i] = c at hci
        obtain ⟨o, ho, hko⟩ := hkm c (List.mem_of_getElem? hci)
        obtain ⟨dx, vs, g1, g2, g3⟩ := (R.same (smA.trans sm)).ob c o ho
        refine ⟨_, rfl, _, rfl, _, rfl, _, rfl, m, _, _, _, rfl, rfl, SqL.of (sm _ _ hm2), at_of e0 (cl i c hci), N.oa c, CO, dx, _, _, rfl, g1, T.cl_HeapObject, T.n_HeapObject_cell, obF_cell .., d, _, rfl, DPut.k (k := Sum.inl (c : Int)) hd' (by omega), ?_⟩
        refine ⟨_, _, rfl, same_upd2 sm hd, upd_same, Nat.le_trans putK_len (by omega), fun j c' hj hc' => ?_⟩
        rw [valV_put]
        by_cases hji : j = i
        · subst hji
          rw [hci] at hc'
          rw [← Option.some.inj hc', if_pos rfl, e0]
        · have hne : c' ≠ c := fun z => hji (nodup_at hM.1 hc' (by rw [z]; exact hci))
          rw [if_neg (fun z => hne (by have := Sum.inl.inj z; omega))]
          exact hkv j c' (by omega) hc'
      · rintro σ H3 ⟨v, kvs, rfl, smB, hd3, hkl, hkv⟩
        refine ⟨Nat.zero_le _, fun tl htl => ?_⟩
        have htl2 : H2 tl = none := smB.free htl
        have htl0 : H tl = none := smA.free htl2
        have smC : Same H H3 := smA.trans smB
        refine ⟨_, rfl, m, rfl, ⟨_, SqL.of (by rw [upd_ne (ne_of_none (smB _ _ hm2) htl)]; exact smB _ _ hm2)⟩, for_list (xs := metV N ms) (fun i σ H' => ∃ v6 v7, σ = [some (.ref N.hp), some (.int r), some (.ref m), some (.ref d), v, some (.ref tl), v6, v7] ∧ Same H3 H' ∧ H' tl = some (.lst (((ms.take i).flatMap (one s ms)).map V.int))) ⟨none, none, rfl, Same.upd htl, upd_same⟩ ?_ ?_ ?_⟩
        · rintro i σ H' hi ⟨v6, v7, rfl, sm, ht⟩
          exact SqL.of (sm _ _ (smB _ _ hm2))
        · rintro i x σ H' hx ⟨v6, v7, rfl, sm, ht⟩
          unfold metV at hx
          rw [List.getElem?_map] at hx
          obtain ⟨c, hci, rfl⟩ := Option.map_eq_some_iff.mp hx
          have him : i < ms.length := (List.getElem?_eq_some_iff.mp hci).1
          obtain ⟨o, ho, hko⟩ := hkm c (List.mem_of_getElem? hci)
          have RR : ∀ H', Same H3 H' → Rep CO CH N s H' := fun H' z => R.same (smC.trans z)
          obtain ⟨dx, vs, g1, g2, g3⟩ := (RR H' sm).ob c o ho
          have g3 := g3 hko
          subst g3
          have hln := flatMap_le (n := 17) (f := one s ms) (ms.take i) fun c _ => one_len g ms c
          rw [List.length_take] at hln
          have hs8 := (g.sl c o ho).2
          refine ⟨_, rfl, .inl ⟨rfl, _, SqL.of ht⟩, _, rfl, N.oa c, CO, dx, _, _, rfl, g1, T.cl_HeapObject, T.n_HeapObject_slots, obF_slots .., N.sa c, _, rfl, .inl (SqL.of g2), tl, _, _, rfl, rfl, ht, (by rw [List.length_map]; omega), ?_⟩
          have sm4 : Same H3 (upd H' tl (.lst ((((ms.take i).flatMap (one s ms)).map V.int) ++ [V.int ((o.slots.map (valV N.oa)).length : Nat)]))) := same_upd2 sm htl
          obtain ⟨dx4, vs4, k1, k2, k3⟩ := (RR _ sm4).ob c o ho
          have k3 := k3 hko
          subst k3
          refine ⟨_, rfl, N.oa c, CO, dx4, _, _, rfl, k1, T.cl_HeapObject, T.n_HeapObject_slots, obF_slots .., N.sa c, rfl, ⟨_, SqL.of k2⟩, for_list (xs := o.slots.map (valV N.oa)) (fun j σ H5 => ∃ v7, σ = [some (.ref N.hp), some (.int r), some (.ref m), some (.ref d), v, some (.ref tl), some (.ref (N.oa c)), v7] ∧ Same H3 H5 ∧ H5 tl = some (.lst (((ms.take i).flatMap (one s ms) ++ ((o.slots.length : Nat) : Int) :: (o.slots.take j).flatMap (HeapNs.valNums ms)).map V.int))) ⟨_, rfl, sm4, ?_⟩ ?_ ?_ ?_⟩
          · rw [upd_same, List.length_map, List.map_append]
            rfl
          · rintro j σ H5 hj ⟨v7, rfl, sm5, ht5⟩
            obtain ⟨_, ws, _, k2, k3⟩ := (RR H5 sm5).ob c o ho
            rw [k3 hko] at k2
            exact SqL.of k2
          · rintro j x σ H5 hx ⟨v7, rfl, sm5, ht5⟩
            rw [List.getElem?_map] at hx
            obtain ⟨u, hui, rfl⟩ := Option.map_eq_some_iff.mp hx
            have lu : Live s u := g.slots c o ho hko u (List.mem_of_getElem? hui)
            have hjl : j < o.slots.length := (List.getElem?_eq_some_iff.mp hui).1
            have hlj := flatMap_le (n := 2) (f := HeapNs.valNums ms) (o.slots.take j) fun v _ => by rw [valNums_len]; exact Nat.le_refl _
            rw [List.length_take] at hlj
            refine ⟨_, rfl, .inl ⟨rfl, _, SqL.of ht5⟩, _, rfl, _, rfl, N, s, u, kvs, ms, d, rfl, RR H5 sm5, lu.at, sm5 _ _ hd3, fun e ee => ?_, fun p hp => ?_⟩
            · subst ee
              -- what a slot holds is met
              have hin : e ∈ ms := by
                have hcl : ∀ c ∈ ms, ∀ o, At s c o → ∀ v ∈ o.slots, ∀ e, v = .obj e → (∃ p, At s e p) → e ∈ ms := by
                  rw [← ems]
                  exact from_closed g (by show 1 ≤ 8; decide)
                exact hcl c (List.mem_of_getElem? hci) o ho _ (List.mem_of_getElem? hui) e rfl (lu.at e rfl)
              have hie := idx_at hin
              exact hkv _ _ ((List.getElem?_eq_some_iff.mp hie).1) hie
            · have ht6 : upd H5 p (.lst ((HeapNs.valNums ms u).map V.int)) tl = _ := (upd_ne (ne_of_none ht5 hp)).trans ht5
              have hv2 := valNums_len ms u
              refine ⟨tl, p, _, _, rfl, rfl, ht6, upd_same, ?_, ?_⟩
              · simp only [List.length_map, List.length_append, List.length_cons]
                omega
              · refine ⟨_, rfl, same_upd2 (sm5.trans (Same.upd hp)) htl, ?_⟩
                rw [upd_same, fm_take hui, ← List.map_append, List.append_assoc, List.cons_append]
          · rintro σ H5 ⟨v7, rfl, sm5, ht5⟩
            rw [List.length_map, List.take_length] at ht5
            refine ⟨_, _, rfl, sm5, ?_⟩
            rw [fm_take hci, one_at ho]
            exact ht5
        · rintro σ H' ⟨v6, v7, rfl, sm, ht⟩
          rw [eL, List.take_length] at ht
          have hln := flatMap_le (n := 17) (f := one s ms) ms fun c _ => one_len g ms c
          refine ⟨_, rfl, m, _, rfl, .inl (SqL.of (sm _ _ (smB _ _ hm2))), _, rfl, tl, _, rfl, .inl (SqL.of ht), (by show 2 ≤ sizeLine; decide), fun l2 hl2 => ⟨_, rfl, l2, tl, _, _, rfl, rfl, upd_same, (by rw [upd_ne (ne_of_none ht hl2)]; exact ht), ?_, fun p hp => ?_⟩⟩
          · show 2 + _ ≤ _
            rw [List.length_map]
            omega
          · have h2 : H' p = none := fresh_upd hp
            have s5 : Same H H' := smC.trans sm
            refine q.quiet R st1 ((s5.trans (Same.upd hl2)).trans (Same.upd hp)) (s5.free h2) upd_same ?_
            rw [es, eL, List.length_map]
            show _ = List.map V.int (_ :: (List.flatMap _ [_]))
            rw [List.flatMap_cons, List.flatMap_nil, List.append_nil]
            rfl
end
end Sw

end
section
set_option Elab.async false
set_option linter.all false
set_option maxRecDepth 100000
set_option maxHeartbeats 2000000
namespace Sw
open PySem PySem.Spec PyProof.Rows L2
open HeapNs (Val)
open PySem.W (Codec)
theorem sc_count : FnScope ["heap", "used", "live", "standing"] ["heap"] (defScope st_tell_count) := ⟨rfl, rfl, rfl, by decide +kernel, rfl, by decide +kernel, by decide +kernel⟩
section
variable {P : Program} {w : World} {K : PySem.W.Frag} {mg : Str → Option Value} {base : Heap} {CO CH : Addr}
def spCount (CO CH : Addr) : Sp := fun vs H Q _ => ∃ (N : Nm) (s : HS), vs = [.ref N.hp] ∧ Rep CO CH N s H ∧ Good s ∧ After CO CH N s H .count Q
theorem ok_count {f : Addr} {fd : FuncData} (F : Fun K "tell_count" "tell_count" st_tell_count f fd) (T : Txt K mg CO CH) (hMs : Has P w K mg base 2 "objects_met" ["values"] (spMets CO CH)) : FnOk P w K mg base CX0 3 f fd ["heap"] (spCount CO CH) := by
  refine F.ok sc_count (fun vs H Q E h => ?_) (fun cdv A outer s H vs Q E hr h => ?_)
  · obtain ⟨N, s, rfl, _⟩ := h
    rfl
  · obtain ⟨N, s, rfl, R, g, q⟩ := h
    refine ⟨_, pss_cons (ps_set (i := 1) sc_count.nd rfl (Or.inl rfl) (pe_callB call_len_seq (by rfl) T.b_len PySem.boot_len (pa_cons (pe_lc (own := [("standing", 3)]) rfl sc_count.nd (pi_list (pe_fld (pv 0) rfl)) (blkOk_by (by rfl)) (fun _ _ _ _ _ => pg_name (i := 3) sc_count.nd rfl (Or.inl rfl)) (fun _ _ _ _ _ => pts_one (pt_cmp (pc_notN (pv 3)))) (fun _ _ _ _ _ => pv 3)) pa_nil)))
      (pss_cons (ps_set (i := 2) sc_count.nd rfl (Or.inl rfl) (pe_callB call_len_seq (by rfl) T.b_len PySem.boot_len (pa_cons (pe_h hMs hr rfl (pa_cons (pe_fld (pv 0) rfl) pa_nil)) pa_nil)))
      (pss_one (ps_ret (pe_lst (pa_cons (pv 1) (pa_cons pe_int (pa_cons (pv 2) pa_nil))))))), ?_⟩
    obtain ⟨dH, nx, hH, hnx⟩ := R.hp
    obtain ⟨xs, hx1, hx2, hx3⟩ := R.lc
    have hsl : sizeLine = 16777216 := sizeLine_eq
    refine ⟨_, rfl, N.hp, CH, dH, _, _, rfl, hH, T.cl_Heap, T.n_Heap_cells, hpF_cells .., N.lc, rfl, ⟨_, SqL.of hx1⟩, fun D hD => lc_list (xs := xs) (fun i H' => Same H H' ∧ ∃ acc, H' D = some (.lst acc) ∧ acc.length = ((s.cells.take i).filter fun o => !HeapNs.isFree o).length ∧ acc.length ≤ i) ⟨Same.upd hD, [], upd_same, rfl, Nat.le_refl _⟩ ?_ ?_ ?_⟩
    · rintro i H' hi ⟨sm, _⟩
      exact SqL.of (sm _ _ hx1)
    · rintro i x H' hx ⟨sm, acc, ha, hl, hli⟩
      have hi : i < 64 := by rw [← hx2]; exact (List.getElem?_eq_some_iff.mp hx).1
      have hi2 : i < s.cells.length := by rw [g.len]; exact hi
      have e1 : s.cells[i]? = some s.cells[i] := List.getElem?_eq_getElem hi2
      generalize s.cells[i] = y at e1
      have hx' := hx3 i _ e1
      rw [hx] at hx'
      have ex := Option.some.inj hx'
      subst ex
      have tk : (s.cells.take (i + 1)).filter (fun o => !HeapNs.isFree o) = (s.cells.take i).filter (fun o => !HeapNs.isFree o) ++ [y].filter fun o => !HeapNs.isFree o := by
        rw [List.take_add_one, e1, List.filter_append]
        rfl
      refine ⟨rfl, _, rfl, _, rfl, ?_⟩
      cases y with
      | none =>
        refine iteF ⟨sm, acc, ha, ?_, by omega⟩
        rw [tk, List.length_append, ← hl]
        rfl
      | some o =>
        refine iteT ⟨_, rfl, acc, ha, by omega, same_upd2 sm hD, _, upd_same, ?_, ?_⟩
        · rw [tk, List.length_append, List.length_append, ← hl]
          rfl
        · rw [List.length_append]
          exact Nat.succ_le_succ hli
    · rintro H' ⟨sm, acc, ha, hl, hli⟩
      rw [hx2] at hl
      rw [List.take_of_length_le (by rw [g.len]; exact Nat.le_refl _)] at hl
      have R' : Rep CO CH N s H' := R.same sm
      obtain ⟨dH', nx', hH', _⟩ := R'.hp
      refine ⟨D, acc, rfl, .inl (SqL.of ha), ?_⟩
      refine ⟨_, rfl, N.hp, CH, dH', _, _, rfl, hH', T.cl_Heap, T.n_Heap_registers, hpF_regs .., N, s, s.regs, N.lr, rfl, R', g, R'.lr, by rw [g.rlen]; exact Nat.le_refl _, g.regs, fun H2 m sm2 hm hm2 _ => ?_⟩
      refine ⟨m, _, rfl, .inl (SqL.of hm2), _, rfl, _, rfl, (by show 3 ≤ sizeLine; decide), fun p hp => ?_⟩
      have s3 : Same H H2 := sm.trans sm2
      refine q.quiet R rfl (s3.trans (Same.upd hp)) (s3.free hp) upd_same ?_
      show _ = [V.int ((s.cells.filter fun o => !HeapNs.isFree o).length : Nat), V.int 1, V.int ((s.from_ s.regs).length : Nat)]
      rw [hl, show (metV N (s.from_ s.regs)).length = (s.from_ s.regs).length from List.length_map _]
/-! the calls by their numbers -/
theorem given_at {gs : List Int} {i : Nat} {z : Int} (h : gs[i]? = some z) : atI (gs.map V.int) (i : Int) = some (.int z) := atI_nat (by rw [List.getElem?_map, h]; rfl)
def spAC (CO CH : Addr) : Sp := fun vs H Q _ => ∃ (N : Nm) (s : HS) (p : Nat) (gs : List Int) (q : Addr) (c : HeapNs.Call), vs = [.ref N.hp, .int p, .ref q] ∧ H q = some (.lst (gs.map V.int)) ∧ Cl ((p : Int) :: gs) c [] ∧ Rep CO CH N s H ∧ Good s ∧ ¬ Foot N s q ∧ After CO CH N s H c Q
def spACr (CO CH : Addr) (lo hi : Nat) : Sp := fun vs H Q E => (∃ p q h, vs = [h, .int ((p : Nat) : Int), q] ∧ lo ≤ p ∧ p < hi) ∧ spAC CO CH vs H Q E
end
end Sw

end
section
set_option Elab.async false
set_option linter.all false
set_option maxRecDepth 100000
set_option maxHeartbeats 2000000
namespace Sw
open PySem PySem.Spec PyProof.Rows L2
open HeapNs (Val)
open PySem.W (Codec)
/-- a call's number, what is given with it, the call -/
inductive Rw : Nat → List Int → HeapNs.Call → Prop where
  | new (a b : Nat) : Rw 0 [(a : Int), (b : Int)] (.new a b)
  | get (a b c : Nat) : Rw 1 [(a : Int), (b : Int), (c : Int)] (.get a b c)
  | put (a b c : Nat) : Rw 2 [(a : Int), (b : Int), (c : Int)] (.put a b c)
  | num (a : Nat) (z : Int) : Rw 3 [(a : Int), z] (.num a z)
  | clear (a : Nat) : Rw 4 [(a : Int)] (.clear a)
  | copy (a b : Nat) : Rw 5 [(a : Int), (b : Int)] (.copy a b)
  | look (a : Nat) : Rw 6 [(a : Int)] (.look a)
  | slot (a b : Nat) : Rw 7 [(a : Int), (b : Int)] (.slot a b)
  | same (a b : Nat) : Rw 8 [(a : Int), (b : Int)] (.same a b)
  | tree (a : Nat) : Rw 9 [(a : Int)] (.tree a)
  | begin_ : Rw 10 [] .begin_
  | work (n : Nat) : Rw 11 [(n : Int)] (.work n)
  | phase : Rw 12 [] .phase
  | count : Rw 13 [] .count
theorem cl_row {l r : List Int} {c : HeapNs.Call} (h : Cl l c r) : r = [] → ∃ (p : Nat) (gs : List Int), l = (p : Int) :: gs ∧ Rw p gs c := fun e => by
  cases h <;> subst e
  · exact ⟨0, _, rfl, .new _ _⟩
  · exact ⟨1, _, rfl, .get _ _ _⟩
  · exact ⟨2, _, rfl, .put _ _ _⟩
  · exact ⟨3, _, rfl, .num _ _⟩
  · exact ⟨4, _, rfl, .clear _⟩
  · exact ⟨5, _, rfl, .copy _ _⟩
  · exact ⟨6, _, rfl, .look _⟩
  · exact ⟨7, _, rfl, .slot _ _⟩
  · exact ⟨8, _, rfl, .same _ _⟩
  · exact ⟨9, _, rfl, .tree _⟩
  · exact ⟨10, _, rfl, .begin_ ⟩
  · exact ⟨11, _, rfl, .work _⟩
  · exact ⟨12, _, rfl, .phase ⟩
  · exact ⟨13, _, rfl, .count ⟩
theorem row_of {p : Nat} {gs : List Int} {c : HeapNs.Call} (h : Cl ((p : Int) :: gs) c []) : Rw p gs c := by
  obtain ⟨p', gs', e, h'⟩ := cl_row h rfl
  injection e with e1 e2
  have e1 : p = p' := by omega
  subst e1 e2
  exact h'
theorem goT {i j : Int} {A B : Prop} (h : i = j) (a : A) : if decide (V.int i = V.int j) = true then A else B := by
  rw [if_pos (decide_eq_true (by rw [h]))]
  exact a
theorem goF {i j : Int} {A B : Prop} (h : i ≠ j) (b : B) : if decide (V.int i = V.int j) = true then A else B := by
  rw [if_neg (by rw [decide_eq_false (show ¬ V.int i = V.int j by intro z; injection z with z; exact h z)]; exact Bool.false_ne_true)]
  exact b
section
variable {P : Program} {w : World} {K : PySem.W.Frag} {mg : Str → Option Value} {base : Heap} {CO CH : Addr}
def spRw (CO CH : Addr) (lo hi : Nat) : Sp := fun vs H Q _ => ∃ (N : Nm) (s : HS) (p : Nat) (gs : List Int) (q : Addr) (c : HeapNs.Call), vs = [.ref N.hp, .int p, .ref q] ∧ H q = some (.lst (gs.map V.int)) ∧ Rw p gs c ∧ lo ≤ p ∧ p ≤ hi ∧ Rep CO CH N s H ∧ Good s ∧ After CO CH N s H c Q
theorem ok_answer_move {f : Addr} {fd : FuncData} (F : Fun K "answer_move" "answer_move" st_answer_move f fd) (T : Txt K mg CO CH)
    (hN : Has P w K mg base 3 "new_object" ["heap", "r", "n"] (spNew CO CH))
    (hG : Has P w K mg base 3 "get_from_slot" ["heap", "d", "r", "k"] (spGet CO CH))
    (hP : Has P w K mg base 3 "put_into_slot" ["heap", "r", "k", "d"] (spPut CO CH))
    (hS : Has P w K mg base 3 "set_value" ["heap", "r", "value"] (spSet CO CH))
    (hC : Has P w K mg base 3 "copy_value" ["heap", "r", "d"] (spCpy CO CH))
    : FnOk P w K mg base CX0 4 f fd ["heap", "call", "given"] (spRw CO CH 0 5) := by
  refine F.ok sc_answer_move (fun vs H Q E h => ?_) (fun cdv A outer s H vs Q E hr h => ?_)
  · obtain ⟨N, s, p, gs, q, c, rfl, _⟩ := h
    rfl
  · obtain ⟨N, s, p, gs, qa, c, rfl, hq, row, lo, hi, R, g, q⟩ := h
    refine ⟨_, (pss_cons (ps_if (pt_cmpR op_eq (pv 1) (pe_gint rfl T.g_NEW) (nomark _)) (pss_one (ps_ret (pe_h hN hr rfl (pa_cons (pv 0) (pa_cons (pe_ix ix_list (pv 2) pe_int (fun _ _ => rfl)) (pa_cons (pe_ix ix_list (pv 2) pe_int (fun _ _ => rfl)) pa_nil)))))) pss_nil)
      (pss_cons (ps_if (pt_cmpR op_eq (pv 1) (pe_gint rfl T.g_GET) (nomark _)) (pss_one (ps_ret (pe_h hG hr rfl (pa_cons (pv 0) (pa_cons (pe_ix ix_list (pv 2) pe_int (fun _ _ => rfl)) (pa_cons (pe_ix ix_list (pv 2) pe_int (fun _ _ => rfl)) (pa_cons (pe_ix ix_list (pv 2) pe_int (fun _ _ => rfl)) pa_nil))))))) pss_nil)
      (pss_cons (ps_if (pt_cmpR op_eq (pv 1) (pe_gint rfl T.g_PUT) (nomark _)) (pss_one (ps_ret (pe_h hP hr rfl (pa_cons (pv 0) (pa_cons (pe_ix ix_list (pv 2) pe_int (fun _ _ => rfl)) (pa_cons (pe_ix ix_list (pv 2) pe_int (fun _ _ => rfl)) (pa_cons (pe_ix ix_list (pv 2) pe_int (fun _ _ => rfl)) pa_nil))))))) pss_nil)
      (pss_cons (ps_if (pt_cmpR op_eq (pv 1) (pe_gint rfl T.g_NUM) (nomark _)) (pss_one (ps_ret (pe_h hS hr rfl (pa_cons (pv 0) (pa_cons (pe_ix ix_list (pv 2) pe_int (fun _ _ => rfl)) (pa_cons (pe_ix ix_list (pv 2) pe_int (fun _ _ => rfl)) pa_nil)))))) pss_nil)
      (pss_cons (ps_if (pt_cmpR op_eq (pv 1) (pe_gint rfl T.g_CLEAR) (nomark _)) (pss_one (ps_ret (pe_h hS hr rfl (pa_cons (pv 0) (pa_cons (pe_ix ix_list (pv 2) pe_int (fun _ _ => rfl)) (pa_cons pe_non pa_nil)))))) pss_nil)
      (pss_one (ps_ret (pe_h hC hr rfl (pa_cons (pv 0) (pa_cons (pe_ix ix_list (pv 2) pe_int (fun _ _ => rfl)) (pa_cons (pe_ix ix_list (pv 2) pe_int (fun _ _ => rfl)) pa_nil))))))))))), ?_⟩
    cases row
    · exact ⟨_, rfl, rfl, _, rfl, goT (by decide) ⟨_, rfl, _, rfl, qa, _, _, _, rfl, rfl, SqL.of hq, rfl, _, rfl, qa, _, _, _, rfl, rfl, SqL.of hq, rfl, N, s, _, _, rfl, R, g, q⟩⟩
    · exact ⟨_, rfl, rfl, _, rfl, goF (by decide) ⟨_, rfl, rfl, _, rfl, goT (by decide) ⟨_, rfl, _, rfl, qa, _, _, _, rfl, rfl, SqL.of hq, rfl, _, rfl, qa, _, _, _, rfl, rfl, SqL.of hq, rfl, _, rfl, qa, _, _, _, rfl, rfl, SqL.of hq, rfl, N, s, _, _, _, rfl, R, g, q⟩⟩⟩
    · exact ⟨_, rfl, rfl, _, rfl, goF (by decide) ⟨_, rfl, rfl, _, rfl, goF (by decide) ⟨_, rfl, rfl, _, rfl, goT (by decide) ⟨_, rfl, _, rfl, qa, _, _, _, rfl, rfl, SqL.of hq, rfl, _, rfl, qa, _, _, _, rfl, rfl, SqL.of hq, rfl, _, rfl, qa, _, _, _, rfl, rfl, SqL.of hq, rfl, N, s, _, _, _, rfl, R, g, q⟩⟩⟩⟩
    · exact ⟨_, rfl, rfl, _, rfl, goF (by decide) ⟨_, rfl, rfl, _, rfl, goF (by decide) ⟨_, rfl, rfl, _, rfl, goF (by decide) ⟨_, rfl, rfl, _, rfl, goT (by decide) ⟨_, rfl, _, rfl, qa, _, _, _, rfl, rfl, SqL.of hq, rfl, _, rfl, qa, _, _, _, rfl, rfl, SqL.of hq, rfl, N, s, _, .num _, _, rfl, .inl ⟨_, rfl, rfl⟩, R, g, q⟩⟩⟩⟩⟩
    · exact ⟨_, rfl, rfl, _, rfl, goF (by decide) ⟨_, rfl, rfl, _, rfl, goF (by decide) ⟨_, rfl, rfl, _, rfl, goF (by decide) ⟨_, rfl, rfl, _, rfl, goF (by decide) ⟨_, rfl, rfl, _, rfl, goT (by decide) ⟨_, rfl, _, rfl, qa, _, _, _, rfl, rfl, SqL.of hq, rfl, N, s, _, .none_, _, rfl, .inr ⟨rfl, rfl⟩, R, g, q⟩⟩⟩⟩⟩⟩
    · exact ⟨_, rfl, rfl, _, rfl, goF (by decide) ⟨_, rfl, rfl, _, rfl, goF (by decide) ⟨_, rfl, rfl, _, rfl, goF (by decide) ⟨_, rfl, rfl, _, rfl, goF (by decide) ⟨_, rfl, rfl, _, rfl, goF (by decide) ⟨_, rfl, _, rfl, qa, _, _, _, rfl, rfl, SqL.of hq, rfl, _, rfl, qa, _, _, _, rfl, rfl, SqL.of hq, rfl, N, s, _, _, rfl, R, g, q⟩⟩⟩⟩⟩⟩
    · omega
    · omega
    · omega
    · omega
    · omega
    · omega
    · omega
    · omega
theorem ok_answer_view {f : Addr} {fd : FuncData} (F : Fun K "answer_view" "answer_view" st_answer_view f fd) (T : Txt K mg CO CH)
    (hL : Has P w K mg base 3 "look_at" ["heap", "r"] (spLook CO CH))
    (hS : Has P w K mg base 3 "look_at_slot" ["heap", "r", "k"] (spSlot CO CH))
    (hE : Has P w K mg base 3 "tell_same" ["heap", "r", "d"] (spSame CO CH))
    (hT : Has P w K mg base 3 "tell_tree" ["heap", "r"] (spTree CO CH))
    : FnOk P w K mg base CX0 4 f fd ["heap", "call", "given"] (spRw CO CH 6 9) := by
  refine F.ok sc_answer_view (fun vs H Q E h => ?_) (fun cdv A outer s H vs Q E hr h => ?_)
  · obtain ⟨N, s, p, gs, q, c, rfl, _⟩ := h
    rfl
  · obtain ⟨N, s, p, gs, qa, c, rfl, hq, row, lo, hi, R, g, q⟩ := h
    refine ⟨_, (pss_cons (ps_if (pt_cmpR op_eq (pv 1) (pe_gint rfl T.g_LOOK) (nomark _)) (pss_one (ps_ret (pe_h hL hr rfl (pa_cons (pv 0) (pa_cons (pe_ix ix_list (pv 2) pe_int (fun _ _ => rfl)) pa_nil))))) pss_nil)
      (pss_cons (ps_if (pt_cmpR op_eq (pv 1) (pe_gint rfl T.g_SLOT) (nomark _)) (pss_one (ps_ret (pe_h hS hr rfl (pa_cons (pv 0) (pa_cons (pe_ix ix_list (pv 2) pe_int (fun _ _ => rfl)) (pa_cons (pe_ix ix_list (pv 2) pe_int (fun _ _ => rfl)) pa_nil)))))) pss_nil)
      (pss_cons (ps_if (pt_cmpR op_eq (pv 1) (pe_gint rfl T.g_SAME) (nomark _)) (pss_one (ps_ret (pe_h hE hr rfl (pa_cons (pv 0) (pa_cons (pe_ix ix_list (pv 2) pe_int (fun _ _ => rfl)) (pa_cons (pe_ix ix_list (pv 2) pe_int (fun _ _ => rfl)) pa_nil)))))) pss_nil)
      (pss_one (ps_ret (pe_h hT hr rfl (pa_cons (pv 0) (pa_cons (pe_ix ix_list (pv 2) pe_int (fun _ _ => rfl)) pa_nil)))))))), ?_⟩
    cases row
    · omega
    · omega
    · omega
    · omega
    · omega
    · omega
    · exact ⟨_, rfl, rfl, _, rfl, goT (by decide) ⟨_, rfl, _, rfl, qa, _, _, _, rfl, rfl, SqL.of hq, rfl, N, s, _, rfl, R, g, q⟩⟩
    · exact ⟨_, rfl, rfl, _, rfl, goF (by decide) ⟨_, rfl, rfl, _, rfl, goT (by decide) ⟨_, rfl, _, rfl, qa, _, _, _, rfl, rfl, SqL.of hq, rfl, _, rfl, qa, _, _, _, rfl, rfl, SqL.of hq, rfl, N, s, _, _, rfl, R, g, q⟩⟩⟩
    · exact ⟨_, rfl, rfl, _, rfl, goF (by decide) ⟨_, rfl, rfl, _, rfl, goF (by decide) ⟨_, rfl, rfl, _, rfl, goT (by decide) ⟨_, rfl, _, rfl, qa, _, _, _, rfl, rfl, SqL.of hq, rfl, _, rfl, qa, _, _, _, rfl, rfl, SqL.of hq, rfl, N, s, _, _, rfl, R, g, q⟩⟩⟩⟩
    · exact ⟨_, rfl, rfl, _, rfl, goF (by decide) ⟨_, rfl, rfl, _, rfl, goF (by decide) ⟨_, rfl, rfl, _, rfl, goF (by decide) ⟨_, rfl, _, rfl, qa, _, _, _, rfl, rfl, SqL.of hq, rfl, N, s, _, rfl, R, g, q⟩⟩⟩⟩
    · omega
    · omega
    · omega
    · omega
theorem ok_answer_round {f : Addr} {fd : FuncData} (F : Fun K "answer_round" "answer_round" st_answer_round f fd) (T : Txt K mg CO CH)
    (hB : Has P w K mg base 3 "begin_round" ["heap"] (spBegin CO CH))
    (hW : Has P w K mg base 3 "work_steps" ["heap", "n"] (spWork CO CH))
    (hP : Has P w K mg base 3 "tell_phase" ["heap"] (spPhase CO CH))
    (hC : Has P w K mg base 3 "tell_count" ["heap"] (spCount CO CH))
    : FnOk P w K mg base CX0 4 f fd ["heap", "call", "given"] (spRw CO CH 10 13) := by
  refine F.ok sc_answer_round (fun vs H Q E h => ?_) (fun cdv A outer s H vs Q E hr h => ?_)
  · obtain ⟨N, s, p, gs, q, c, rfl, _⟩ := h
    rfl
  · obtain ⟨N, s, p, gs, qa, c, rfl, hq, row, lo, hi, R, g, q⟩ := h
    refine ⟨_, (pss_cons (ps_if (pt_cmpR op_eq (pv 1) (pe_gint rfl T.g_BEGIN) (nomark _)) (pss_one (ps_ret (pe_h hB hr rfl (pa_cons (pv 0) pa_nil)))) pss_nil)
      (pss_cons (ps_if (pt_cmpR op_eq (pv 1) (pe_gint rfl T.g_WORK) (nomark _)) (pss_one (ps_ret (pe_h hW hr rfl (pa_cons (pv 0) (pa_cons (pe_ix ix_list (pv 2) pe_int (fun _ _ => rfl)) pa_nil))))) pss_nil)
      (pss_cons (ps_if (pt_cmpR op_eq (pv 1) (pe_gint rfl T.g_PHASE) (nomark _)) (pss_one (ps_ret (pe_h hP hr rfl (pa_cons (pv 0) pa_nil)))) pss_nil)
      (pss_one (ps_ret (pe_h hC hr rfl (pa_cons (pv 0) pa_nil))))))), ?_⟩
    cases row
    · omega
    · omega
    · omega
    · omega
    · omega
    · omega
    · omega
    · omega
    · omega
    · omega
    · exact ⟨_, rfl, rfl, _, rfl, goT (by decide) ⟨_, rfl, N, s, rfl, R, g, q⟩⟩
    · exact ⟨_, rfl, rfl, _, rfl, goF (by decide) ⟨_, rfl, rfl, _, rfl, goT (by decide) ⟨_, rfl, _, rfl, qa, _, _, _, rfl, rfl, SqL.of hq, rfl, N, s, _, rfl, R, g, q⟩⟩⟩
    · exact ⟨_, rfl, rfl, _, rfl, goF (by decide) ⟨_, rfl, rfl, _, rfl, goF (by decide) ⟨_, rfl, rfl, _, rfl, goT (by decide) ⟨_, rfl, N, s, rfl, R, g, q⟩⟩⟩⟩
    · exact ⟨_, rfl, rfl, _, rfl, goF (by decide) ⟨_, rfl, rfl, _, rfl, goF (by decide) ⟨_, rfl, rfl, _, rfl, goF (by decide) ⟨_, rfl, N, s, rfl, R, g, q⟩⟩⟩⟩
theorem ok_answer_call {f : Addr} {fd : FuncData} (F : Fun K "answer_call" "answer_call" st_answer_call f fd) (T : Txt K mg CO CH)
    (hM : Has P w K mg base 4 "answer_move" ["heap", "call", "given"] (spRw CO CH 0 5)) (hV : Has P w K mg base 4 "answer_view" ["heap", "call", "given"] (spRw CO CH 6 9)) (hR : Has P w K mg base 4 "answer_round" ["heap", "call", "given"] (spRw CO CH 10 13)) :
    FnOk P w K mg base CX0 5 f fd ["heap", "call", "given"] (spAC CO CH) := by
  refine F.ok sc_answer_call (fun vs H Q E h => ?_) (fun cdv A outer s H vs Q E hr h => ?_)
  · obtain ⟨N, s, p, gs, q, c, rfl, _⟩ := h
    rfl
  · obtain ⟨N, s, p, gs, qa, c, rfl, hq, hcl, R, g, _, q⟩ := h
    refine ⟨_, pss_cons (ps_if (pt_cmpR op_le (pv 1) (pe_gint rfl T.g_COPY) (nomark _)) (pss_one (ps_ret (pe_h hM hr rfl (pa_cons (pv 0) (pa_cons (pv 1) (pa_cons (pv 2) pa_nil)))))) pss_nil)
      (pss_cons (ps_if (pt_cmpR op_le (pv 1) (pe_gint rfl T.g_TREE) (nomark _)) (pss_one (ps_ret (pe_h hV hr rfl (pa_cons (pv 0) (pa_cons (pv 1) (pa_cons (pv 2) pa_nil)))))) pss_nil)
      (pss_one (ps_ret (pe_h hR hr rfl (pa_cons (pv 0) (pa_cons (pv 1) (pa_cons (pv 2) pa_nil))))))), ?_⟩
    have row := row_of hcl
    have p13 : p ≤ 13 := by cases row <;> decide
    refine ⟨_, rfl, _, _, rfl, rfl, _, rfl, ite2 (fun h => ?_) fun h => ⟨_, rfl, _, _, rfl, rfl, _, rfl, ite2 (fun h2 => ?_) fun h2 => ?_⟩⟩
    · have := of_decide_eq_true h
      exact ⟨_, rfl, _, rfl, _, rfl, N, s, p, gs, qa, c, rfl, hq, row, by omega, by omega, R, g, q⟩
    · have h2 := of_decide_eq_true h2
      have h : ¬ (p : Int) ≤ 5 := fun z => h (decide_eq_true z)
      exact ⟨_, rfl, _, rfl, _, rfl, N, s, p, gs, qa, c, rfl, hq, row, by omega, by omega, R, g, q⟩
    · have h2 : ¬ (p : Int) ≤ 9 := fun z => h2 (decide_eq_true z)
      exact ⟨_, rfl, _, rfl, _, rfl, N, s, p, gs, qa, c, rfl, hq, row, by omega, by omega, R, g, q⟩
end
end Sw

end
section
set_option Elab.async false
set_option linter.all false
set_option maxRecDepth 100000
set_option maxHeartbeats 2000000
namespace Sw
open PySem PySem.Spec PyProof.Rows L2
open HeapNs (Val)
open PySem.W (Codec)
/-- a list that is read and never written: in the heap and not taken up (nor the list at tl), or one of the module's own -/
def SeqIn (K : PySem.W.Frag) (N : Nm) (s : HS) (H : Hp) (tl a : Addr) (xs : List V) : Prop :=
  (Rd H a (.lst xs) ∧ ¬ Foot N s a ∧ a ≠ tl) ∨ ∀ H', SqL K H' a xs
section
variable {K : PySem.W.Frag} {N N' : Nm} {s s' : HS} {H H' : Hp} {tl a : Addr} {xs : List V}
theorem SeqIn.sq (h : SeqIn K N s H tl a xs) : SqL K H a xs := by
  rcases h with ⟨h, _⟩ | h
  · exact .inl h
  · exact h H
theorem SeqIn.keeps (h : SeqIn K N s H tl a xs) (k : Keeps N s H N' s' H') : SeqIn K N' s' H' tl a xs := by
  rcases h with ⟨h | ⟨o, h⟩, f, n⟩ | h
  · obtain ⟨h1, f1⟩ := k _ _ h f
    exact .inl ⟨.inl h1, f1, n⟩
  · obtain ⟨h1, f1⟩ := k _ _ h f
    exact .inl ⟨.inr ⟨o, h1⟩, f1, n⟩
  · exact .inr h
theorem SeqIn.mk (h : SqL K H a xs) (e : Same H H') (f : ∀ o, H a = some o → ¬ Foot N s a ∧ a ≠ tl) : SeqIn K N s H' tl a xs := by
  rcases h with (h | ⟨o, h⟩) | h
  · exact .inl ⟨.inl (e _ _ h), f _ h⟩
  · exact .inl ⟨.inr ⟨o, e _ _ h⟩, f _ h⟩
  · exact .inr fun _ => .inr h
theorem SeqIn.upd (h : SeqIn K N s H tl a xs) (o : HO) : SeqIn K N s (upd H tl o) tl a xs := by
  rcases h with ⟨h | ⟨o, h⟩, f, n⟩ | h
  · exact .inl ⟨.inl (by rw [upd_ne n]; exact h), f, n⟩
  · exact .inl ⟨.inr ⟨o, by rw [upd_ne n]; exact h⟩, f, n⟩
  · exact .inr h
/-- what is not taken up may be written -/
theorem Rep.out {CO CH : Addr} (R : Rep CO CH N s H) {b : Addr} (f : ¬ Foot N s b) (o : HO) : Rep CO CH N s (L2.upd H b o) := by
  have kp : ∀ {c : Addr} {u : HO}, H c = some u → Foot N s c → L2.upd H b o c = some u := fun {c u} h g => by
    rw [upd_ne (show c ≠ b from fun e => f (by rw [← e]; exact g))]
    exact h
  obtain ⟨⟨dH, nx, h1, h1n⟩, ⟨xs, h2, h3, h4⟩, h5, h6, h7, h8, h9⟩ := R
  refine ⟨⟨dH, nx, kp h1 (.inl rfl), h1n⟩, ⟨xs, kp h2 (.inr (.inl rfl)), h3, h4⟩, kp h5 (.inr (.inr (.inl rfl))), fun c o h => ?_, h7, h8, h9⟩
  obtain ⟨dx, vs, g1, g2, g3⟩ := h6 c o h
  exact ⟨dx, vs, kp g1 (.inr (.inr (.inr ⟨c, o, h, .inr rfl⟩))), kp g2 (.inr (.inr (.inr ⟨c, o, h, .inl rfl⟩))), g3⟩
end
def spAns (K : PySem.W.Frag) : Sp := fun vs H Q _ => ∃ (a : Addr) (ns : List Int), vs = [.ref a] ∧ SqL K H a (ns.map V.int) ∧ ns.length ≤ 16000 ∧ PyWrheap.answers_asked ns = true ∧ ∀ (H' : Hp) (p : Addr), H' p = some (.lst ((PyWrheap.answers ns).map V.int)) → Q (.ref p) H'
theorem Rep.start {CO CH : Addr} {H : Hp} {p dx lc lr : Addr} (h1 : H p = some (.ins CH dx (hpF 0 0 lc lr))) (h2 : H lc = some (.lst (List.replicate 64 .non))) (h3 : H lr = some (.lst (List.replicate 8 .non))) (h4 : lc ≠ lr) :
    Rep CO CH ⟨p, lc, lr, fun _ => 0, fun _ => 0⟩ HeapNs.start H := by
  have no : ∀ c o, ¬ At HeapNs.start c o := fun c o h => by
    have h : (List.replicate HeapNs.CELLS (none : Option OB))[c]? = some (some o) := h
    have q := List.eq_of_mem_replicate (List.mem_of_getElem? h)
    cases q
  refine ⟨⟨dx, 0, h1, fun z => by cases z⟩, ⟨_, h2, List.length_replicate, fun c x e => ?_⟩, ?_, fun c o h => (no c o h).elim, fun c c' o o' h => (no c o h).elim, fun c o h => (no c o h).elim, h4⟩
  · have e : (List.replicate HeapNs.CELLS (none : Option OB))[c]? = some x := e
    obtain ⟨hc, _⟩ := List.getElem?_eq_some_iff.mp e
    have hx := List.eq_of_mem_replicate (List.mem_of_getElem? e)
    subst hx
    rw [List.length_replicate] at hc
    show (List.replicate 64 V.non)[c]? = some V.non
    rw [List.getElem?_replicate, if_pos (show c < 64 from hc)]
  · rw [h3]
    rfl
theorem foot_start {p lc lr b : Addr} (h : Foot ⟨p, lc, lr, fun _ => 0, fun _ => 0⟩ HeapNs.start b) : b = p ∨ b = lc ∨ b = lr := by
  rcases h with h | h | h | ⟨c, o, h, _⟩
  · exact .inl h
  · exact .inr (.inl h)
  · exact .inr (.inr h)
  · have h : (List.replicate HeapNs.CELLS (none : Option OB))[c]? = some (some o) := h
    have q := List.eq_of_mem_replicate (List.mem_of_getElem? h)
    cases q
theorem cut_nat {xs : List V} {i j : Nat} (hij : i ≤ j) (hj : j ≤ xs.length) : cutV xs (some (i : Int)) (some (j : Int)) = (xs.drop i).take (j - i) := by
  unfold cutV
  rw [HT.sIx_nat, HT.sIx_nat, Nat.min_eq_left hj, Nat.min_eq_left (Nat.le_trans hij hj)]
/-- the word of the loop -/
structure Word (CO CH : Addr) (K : PySem.W.Frag) (a : Addr) (ns : List Int) (tl : Addr) (pl : Nat) (N : Nm) (s : HS) (ts : List Int) (H : Hp) : Prop where
  R : Rep CO CH N s H
  g : Good s
  sq : SeqIn K N s H tl a (ns.map V.int)
  tt : H tl = some (.lst (ts.map V.int))
  tf : ¬ Foot N s tl
  le : pl ≤ ns.length
  ok : Ok (ns.drop pl)
  eq : ts ++ out s (ns.drop pl) = PyWrheap.answers ns
  sz : ts.length + 1200 * cnt (ns.drop pl) ≤ 480000
section
variable {P : Program} {w : World} {K : PySem.W.Frag} {mg : Str → Option Value} {base : Heap} {CO CH : Addr}
def placeOf (n : Nat) (σ : L2.St) : Nat := match (σ[3]? : Option (Option V)) with
  | some (some (V.int i)) => n - i.toNat
  | _ => 0
theorem ok_ans {f fI : Addr} {fd fdI : FuncData} (F : Fun K "answers" "answers" st_answers f fd) (T : Txt K mg CO CH) (hGC : ∃ a, mg "GIVEN_COUNTS" = some (.ref a) ∧ ∀ H : Hp, SqT K H a (cts.map fun (n : Nat) => V.int (n : Int)))
    (M : Mk K CH fI) (GI : FnOk P w K mg base CX0 1 fI fdI ["self"] (spInitH CH)) (bI : Binds K fdI ["self"] []) (hAC : Has P w K mg base 5 "answer_call" ["heap", "call", "given"] (spAC CO CH)) :
    FnOk P w K mg base CX0 6 f fd ["calls"] (spAns K) := by
  refine F.ok sc_answers (fun vs H Q E h => ?_) (fun cdv A outer s H vs Q E hr h => ?_)
  · obtain ⟨a, ns, rfl, _⟩ := h
    rfl
  · obtain ⟨a, ns, rfl, hS, hlen, hask, k⟩ := h
    obtain ⟨gc, hgc, hgs⟩ := hGC
    have hr2 : Room 2 _ := hr.mono (by decide)
    have hr4 : Room 5 _ := hr.mono (by decide)
    refine ⟨_, pss_cons (ps_set (i := 1) sc_answers.nd rfl (Or.inl rfl) (pe_make0 M GI hr2 rfl T.mg_Heap bI .nil pass0))
      (pss_cons (ps_set (i := 2) sc_answers.nd rfl (Or.inl rfl) (pe_lst pa_nil))
      (pss_cons (ps_set (i := 3) sc_answers.nd rfl (Or.inl rfl) pe_int)
      (pss_cons (ps_while PassesOwn.never (pt_cmpR op_lt (pv 3) (pe_callB call_len_seq (by rfl) T.b_len PySem.boot_len (pa_cons (pv 0) pa_nil)) (nomark _))
        (pss_cons (ps_set (i := 4) sc_answers.nd rfl (Or.inl rfl) (pe_ix ix_list (pv 0) (pv 3) (fun _ _ => rfl)))
        (pss_cons (ps_set (i := 5) sc_answers.nd rfl (Or.inl rfl) (pe_op op_add (pe_op op_add (pv 3) pe_int) (pe_ix ix_tup (pe_glob (v := .ref gc) rfl hgc rfl) (pv 4) (fun _ _ => rfl))))
        (pss_cons (ps_set (i := 6) sc_answers.nd rfl (Or.inl rfl) (pe_h hAC hr4 rfl (pa_cons (pv 1) (pa_cons (pv 4) (pa_cons (pe_slice sl_list (pv 0) (po_some (pe_op op_add (pv 3) pe_int)) (po_some (pv 5))) pa_nil)))))
        (pss_cons (ps_expr (pe_bm PySem.F.plainAttrs_list PySem.F.slot_list_append PySem.F.type_list_append mt_append (pv 2) (pa_cons (pe_callB call_len_seq (by rfl) T.b_len PySem.boot_len (pa_cons (pv 6) pa_nil)) pa_nil)))
        (pss_cons (ps_expr (pe_bm PySem.F.plainAttrs_list PySem.F.slot_list_extend PySem.F.type_list_extend mt_extend (pv 2) (pa_cons (pv 6) pa_nil)))
        (pss_one (ps_set (i := 3) sc_answers.nd rfl (Or.inl rfl) (pv 5)))))))))
      (pss_one (ps_ret (pv 2)))))), ?_⟩
    -- heap = Heap(); told = []; place = 0
    intro x dx nx ndx nex
    refine ⟨x, dx, rfl, upd_same, fun H1 lc lr h1 h2 h3 h4 h5 h6 kp => ⟨rfl, ?_⟩⟩
    have s1 : Same H H1 := Same.made nx ndx kp
    refine ⟨Nat.zero_le _, fun tl htl => ?_⟩
    have s2 : Same H1 (upd H1 tl (.lst [])) := Same.upd htl
    have R0 : Rep CO CH ⟨x, lc, lr, fun _ => 0, fun _ => 0⟩ HeapNs.start H1 := Rep.start h1 h2 h3 h4
    obtain ⟨ok0, cnt0⟩ := ok_of hask
    have W0 : Word CO CH K a ns tl 0 ⟨x, lc, lr, fun _ => 0, fun _ => 0⟩ HeapNs.start [] (upd H1 tl (.lst [])) := by
      refine ⟨R0.same s2, good_start, SeqIn.mk hS (s1.trans s2) fun o e => ⟨fun ft => ?_, fun z => ?_⟩, upd_same, R0.fresh htl, Nat.zero_le _, ?_, ?_, ?_⟩
      rotate_left
      · rw [z] at e
        have := s1 _ _ e
        rw [htl] at this
        cases this
      rotate_left
      rotate_left
      rotate_left
      · rcases foot_start ft with z | z | z
        · rw [z, nx] at e; cases e
        · subst z
          exact absurd (fresh_upd (fresh_upd h5)) (by rw [e]; simp)
        · subst z
          exact absurd (fresh_upd (fresh_upd h6)) (by rw [e]; simp)
      · rw [List.drop_zero]; exact ok0
      · rw [List.drop_zero, List.nil_append]; exact (answers_out ns).symm
      · rw [List.drop_zero]; show 0 + 1200 * cnt ns ≤ 480000; omega
    refine while_by (fun σ H' => ∃ (pl : Nat) (N : Nm) (s : HS) (ts : List Int) (v4 v5 v6 : Option V), σ = [some (.ref a), some (.ref N.hp), some (.ref tl), some (.int pl), v4, v5, v6] ∧ Word CO CH K a ns tl pl N s ts H') (fun σ _ => placeOf ns.length σ) ⟨0, _, _, _, none, none, none, rfl, W0⟩ ?_ ?_
    · rintro σ H' ⟨pl, N, s, ts, v4, v5, v6, rfl, W⟩
      refine ⟨_, rfl, _, rfl, a, _, rfl, .inl W.sq.sq, _, _, rfl, rfl, _, rfl, ?_⟩
      rw [List.length_map]
      by_cases hpl : pl < ns.length
      · rw [decide_eq_true (show (pl : Int) < (ns.length : Nat) by omega)]
        refine iteT ?_
        -- the call that stands here
        rcases decode W.ok with e0 | ⟨c, r, hcl, okr⟩
        · rw [List.drop_eq_nil_iff] at e0
          omega
        obtain ⟨p, gs, el, hcl0, hct⟩ := cl_parts hcl
        obtain ⟨eo, ec⟩ := cl_out hcl okr s
        have hp : ns[pl]? = some (p : Int) := by
          have := congrArg (fun l => l[0]?) el
          simpa using this
        have hlen2 : pl + 1 + gs.length + r.length = ns.length := by
          have := congrArg List.length el
          rw [List.length_drop] at this
          simp at this
          omega
        have hd1 : ns.drop (pl + 1) = gs ++ r := by
          rw [← List.drop_drop, el]
          rfl
        have hd2 : ns.drop (pl + 1 + gs.length) = r := by
          rw [← List.drop_drop, hd1, List.drop_left]
        have hcut : cutV (ns.map V.int) (some ((pl + 1 : Nat) : Int)) (some ((pl + 1 + gs.length : Nat) : Int)) = gs.map V.int := by
          rw [cut_nat (by omega) (by rw [List.length_map]; omega), ← List.map_drop, hd1, ← List.map_take, Nat.add_sub_cancel_left, List.take_left]
        have hat : atI (ns.map V.int) (pl : Int) = some (V.int p) := atI_nat (by rw [List.getElem?_map, hp]; rfl)
        have hct2 : atI (cts.map fun (n : Nat) => V.int (n : Int)) (p : Int) = some (V.int gs.length) := atI_nat (by rw [List.getElem?_map, hct]; rfl)
        refine ⟨_, rfl, _, rfl, a, _, _, _, rfl, rfl, W.sq.sq, hat, ?_⟩
        refine ⟨_, rfl, _, _, rfl, rfl, _, rfl, gc, _, _, _, rfl, rfl, hgs _, hct2, _, _, rfl, rfl, ?_⟩
        refine ⟨_, rfl, _, rfl, _, rfl, _, rfl, _, _, rfl, rfl, _, rfl, _, rfl, _, rfl, a, _, rfl, W.sq.sq, fun q hq => ?_⟩
        have e1 : (pl : Int) + 1 = ((pl + 1 : Nat) : Int) := by omega
        have e2 : (pl : Int) + 1 + (gs.length : Int) = ((pl + 1 + gs.length : Nat) : Int) := by omega
        have sq : Same H' (upd H' q (.lst (gs.map V.int))) := Same.upd hq
        have eH : upd H' q (.lst (cutV (ns.map V.int) (some ((pl : Int) + 1)) (some ((pl : Int) + 1 + (gs.length : Int))))) = upd H' q (.lst (gs.map V.int)) := by rw [e2, e1, hcut]
        refine ⟨N, s, p, gs, q, c, rfl, ?_, hcl0, ?_, W.g, W.R.fresh hq, ?_⟩
        · exact (congrFun eH q).trans upd_same
        · exact (W.R.same sq).same fun b o e => by rw [eH]; exact e
        · intro N2 H2 pa en R2 kp2 hpa hpa2 npa
          have kp3 : Keeps N s H' N2 (HeapNs.step s c).1 H2 := fun b o e fb => kp2 b o (by rw [eH]; exact sq b o e) fb
          obtain ⟨tl2, tf2⟩ := kp3 _ _ W.tt W.tf
          have hpt : pa ≠ tl := fun z => by
            have := fresh_upd hpa
            rw [z, W.tt] at this
            cases this
          have hlen3 := shown_len W.g c
          have hsz := W.sz
          rw [ec] at hsz
          have hsl : sizeLine = 16777216 := sizeLine_eq
          -- told.append(len(answer)); told.extend(answer); place = behind
          refine ⟨_, rfl, .inl ⟨rfl, _, SqL.of tl2⟩, _, rfl, pa, _, rfl, .inl (SqL.of hpa2), tl, _, _, rfl, rfl, tl2, (by rw [List.length_map]; omega), ?_⟩
          refine ⟨_, rfl, .inl ⟨rfl, _, SqL.of upd_same⟩, _, rfl, tl, pa, _, _, rfl, rfl, upd_same, (by rw [upd_ne hpt]; exact hpa2), (by simp only [List.length_append, List.length_map, List.length_cons, List.length_nil]; omega), ?_⟩
          refine ⟨_, rfl, ⟨pl + 1 + gs.length, N2, (HeapNs.step s c).1, ts ++ ((HeapNeutral.shown (HeapNs.step s c).2).length : Int) :: HeapNeutral.shown (HeapNs.step s c).2, some (.int p), some (.int ((pl : Int) + 1 + (gs.length : Int))), some (.ref pa), ?_, ?_⟩, ?_⟩
          · rw [en, ← e2]
            rfl
          · rw [upd_upd]
            refine ⟨R2.out tf2 _, good_step W.g c, (W.sq.keeps kp3).upd _, ?_, tf2, by omega, by rw [hd2]; exact okr, ?_, ?_⟩
            · rw [upd_same, List.map_append, List.map_cons, List.length_map, List.append_assoc]
              rfl
            · rw [hd2, ← W.eq, eo, List.append_assoc]
            · rw [hd2, List.length_append, List.length_cons]
              omega
          · show ns.length - ((pl : Int) + 1 + (gs.length : Int)).toNat < ns.length - (pl : Int).toNat
            omega
      · rw [decide_eq_false (show ¬ (pl : Int) < (ns.length : Nat) by omega)]
        refine iteF ⟨_, rfl, ?_⟩
        have e := W.eq
        rw [List.drop_eq_nil_of_le (Nat.le_of_not_lt hpl), out_nil, List.append_nil] at e
        have t := W.tt
        rw [e] at t
        exact k _ tl t
    · rintro σ H' Q1 Q2 hq ⟨v, e1, v2, e2, p, ys, e3, e4, i, j, e5, e6, kk, e7, e8⟩
      exact ⟨v, e1, v2, e2, p, ys, e3, e4, i, j, e5, e6, kk, e7, hq _ _ e8⟩
end
end Sw

end
section
set_option Elab.async false
set_option linter.all false
set_option maxRecDepth 100000
set_option maxHeartbeats 2000000
namespace Sw
open PySem PySem.Spec PyProof.Rows L2
open PySem.W (Codec)
theorem all_mk {P : Program} {w : World} {K : PySem.W.Frag} {h : Heap} {mg : Str → Option Value} {fa CHeapObject CHeap f0 f1 f2 f3 f4 f5 f6 f7 f8 f9 f10 f11 f12 f13 f14 f15 f16 f17 f18 f19 f20 f21 f22 f23 f24 f25 f26 f27 f28 f29 f30 f31 f32 : Addr} (X : K.In h) (G : h.Ns mainGlobals mg) (hfa : mg "answers" = some (.ref fa))
    {od0 an0 od1 an1 od2 an2 od3 an3 od4 an4 od5 an5 od6 an6 od7 an7 od8 an8 od9 an9 od10 an10 od11 an11 od12 an12 od13 an13 od14 an14 od15 an15 od16 an16 od17 an17 od18 an18 od19 an19 od20 an20 od21 an21 od22 an22 od23 an23 od24 an24 od25 an25 od26 an26 od27 an27 od28 an28 od29 an29 od30 an30 od31 an31 od32 an32 : Option Addr} {sl0 sl1 sl2 sl3 sl4 sl5 sl6 sl7 sl8 sl9 sl10 sl11 sl12 sl13 sl14 sl15 sl16 sl17 sl18 sl19 sl20 sl21 sl22 sl23 sl24 sl25 sl26 sl27 sl28 sl29 sl30 sl31 sl32 : Array (Option Value)} {oc0 kV0 dc0 pm0 cd0 ct0 oc1 kV1 dc1 pm1 cd1 ct1 oc2 kV2 dc2 pm2 cd2 ct2 oc3 kV3 dc3 pm3 cd3 ct3 oc4 kV4 dc4 pm4 cd4 ct4 oc5 kV5 dc5 pm5 cd5 ct5 oc6 kV6 dc6 pm6 cd6 ct6 oc7 kV7 dc7 pm7 cd7 ct7 oc8 kV8 dc8 pm8 cd8 ct8 oc9 kV9 dc9 pm9 cd9 ct9 oc10 kV10 dc10 pm10 cd10 ct10 oc11 kV11 dc11 pm11 cd11 ct11 oc12 kV12 dc12 pm12 cd12 ct12 oc13 kV13 dc13 pm13 cd13 ct13 oc14 kV14 dc14 pm14 cd14 ct14 oc15 kV15 dc15 pm15 cd15 ct15 oc16 kV16 dc16 pm16 cd16 ct16 oc17 kV17 dc17 pm17 cd17 ct17 oc18 kV18 dc18 pm18 cd18 ct18 oc19 kV19 dc19 pm19 cd19 ct19 oc20 kV20 dc20 pm20 cd20 ct20 oc21 kV21 dc21 pm21 cd21 ct21 oc22 kV22 dc22 pm22 cd22 ct22 oc23 kV23 dc23 pm23 cd23 ct23 oc24 kV24 dc24 pm24 cd24 ct24 oc25 kV25 dc25 pm25 cd25 ct25 oc26 kV26 dc26 pm26 cd26 ct26 oc27 kV27 dc27 pm27 cd27 ct27 oc28 kV28 dc28 pm28 cd28 ct28 oc29 kV29 dc29 pm29 cd29 ct29 oc30 kV30 dc30 pm30 cd30 ct30 oc31 kV31 dc31 pm31 cd31 ct31 oc32 kV32 dc32 pm32 cd32 ct32 : Value} {t0 t1 t2 t3 t4 t5 t6 t7 t8 t9 t10 t11 t12 t13 t14 t15 t16 t17 t18 t19 t20 t21 t22 t23 t24 t25 t26 t27 : Tok} {ta0 : Addr} {to0 : Obj} {ti0 : Array Value} {tn0 : Nat}
    (aC_HeapObject : PySem.W.nsIn K mainGlobals "HeapObject" = some (some (.ref CHeapObject)))
    (aC_Heap : PySem.W.nsIn K mainGlobals "Heap" = some (some (.ref CHeap)))
    (a0 : PySem.W.findIn K (.ref CHeapObject) "__init__" = some (some (.ref f0)))
    (i0 : PySem.W.isFn K (.ref f0) = true)
    (l0 : K.lookup f0 = some ⟨oc0, od0, .func (PySem.W.fnOf "__init__" "HeapObject.__init__" (defArgs st_HeapObject_init) (defBody st_HeapObject_init) (defScope st_HeapObject_init) .none kV0 dc0 pm0 an0 cd0 ct0), sl0⟩)
    (c0 : PySem.W.codeIn K cd0 "HeapObject.__init__" = true)
    (k0 : PySem.W.keepIn K (.ref f0) = true)
    (a1 : PySem.W.findIn K (.ref CHeap) "__init__" = some (some (.ref f1)))
    (i1 : PySem.W.isFn K (.ref f1) = true)
    (l1 : K.lookup f1 = some ⟨oc1, od1, .func (PySem.W.fnOf "__init__" "Heap.__init__" (defArgs st_Heap_init) (defBody st_Heap_init) (defScope st_Heap_init) .none kV1 dc1 pm1 an1 cd1 ct1), sl1⟩)
    (c1 : PySem.W.codeIn K cd1 "Heap.__init__" = true)
    (k1 : PySem.W.keepIn K (.ref f1) = true)
    (a2 : PySem.W.nsIn K mainGlobals "is_register" = some (some (.ref f2)))
    (l2 : K.lookup f2 = some ⟨oc2, od2, .func (PySem.W.fnOf "is_register" "is_register" (defArgs st_is_register) (defBody st_is_register) (defScope st_is_register) .none kV2 dc2 pm2 an2 cd2 ct2), sl2⟩)
    (c2 : PySem.W.codeIn K cd2 "is_register" = true)
    (k2 : PySem.W.keepIn K (.ref f2) = true)
    (a3 : PySem.W.nsIn K mainGlobals "least_free_cell" = some (some (.ref f3)))
    (l3 : K.lookup f3 = some ⟨oc3, od3, .func (PySem.W.fnOf "least_free_cell" "least_free_cell" (defArgs st_least_free_cell) (defBody st_least_free_cell) (defScope st_least_free_cell) .none kV3 dc3 pm3 an3 cd3 ct3), sl3⟩)
    (c3 : PySem.W.codeIn K cd3 "least_free_cell" = true)
    (k3 : PySem.W.keepIn K (.ref f3) = true)
    (a4 : PySem.W.nsIn K mainGlobals "slot_refusal" = some (some (.ref f4)))
    (l4 : K.lookup f4 = some ⟨oc4, od4, .func (PySem.W.fnOf "slot_refusal" "slot_refusal" (defArgs st_slot_refusal) (defBody st_slot_refusal) (defScope st_slot_refusal) .none kV4 dc4 pm4 an4 cd4 ct4), sl4⟩)
    (c4 : PySem.W.codeIn K cd4 "slot_refusal" = true)
    (k4 : PySem.W.keepIn K (.ref f4) = true)
    (a5 : PySem.W.nsIn K mainGlobals "shade" = some (some (.ref f5)))
    (l5 : K.lookup f5 = some ⟨oc5, od5, .func (PySem.W.fnOf "shade" "shade" (defArgs st_shade) (defBody st_shade) (defScope st_shade) .none kV5 dc5 pm5 an5 cd5 ct5), sl5⟩)
    (c5 : PySem.W.codeIn K cd5 "shade" = true)
    (k5 : PySem.W.keepIn K (.ref f5) = true)
    (a6 : PySem.W.nsIn K mainGlobals "shade_got" = some (some (.ref f6)))
    (l6 : K.lookup f6 = some ⟨oc6, od6, .func (PySem.W.fnOf "shade_got" "shade_got" (defArgs st_shade_got) (defBody st_shade_got) (defScope st_shade_got) .none kV6 dc6 pm6 an6 cd6 ct6), sl6⟩)
    (c6 : PySem.W.codeIn K cd6 "shade_got" = true)
    (k6 : PySem.W.keepIn K (.ref f6) = true)
    (a7 : PySem.W.nsIn K mainGlobals "birth_colour" = some (some (.ref f7)))
    (l7 : K.lookup f7 = some ⟨oc7, od7, .func (PySem.W.fnOf "birth_colour" "birth_colour" (defArgs st_birth_colour) (defBody st_birth_colour) (defScope st_birth_colour) .none kV7 dc7 pm7 an7 cd7 ct7), sl7⟩)
    (c7 : PySem.W.codeIn K cd7 "birth_colour" = true)
    (k7 : PySem.W.keepIn K (.ref f7) = true)
    (a8 : PySem.W.nsIn K mainGlobals "begin_round" = some (some (.ref f8)))
    (l8 : K.lookup f8 = some ⟨oc8, od8, .func (PySem.W.fnOf "begin_round" "begin_round" (defArgs st_begin_round) (defBody st_begin_round) (defScope st_begin_round) .none kV8 dc8 pm8 an8 cd8 ct8), sl8⟩)
    (c8 : PySem.W.codeIn K cd8 "begin_round" = true)
    (k8 : PySem.W.keepIn K (.ref f8) = true)
    (a9 : PySem.W.nsIn K mainGlobals "least_grey" = some (some (.ref f9)))
    (l9 : K.lookup f9 = some ⟨oc9, od9, .func (PySem.W.fnOf "least_grey" "least_grey" (defArgs st_least_grey) (defBody st_least_grey) (defScope st_least_grey) .none kV9 dc9 pm9 an9 cd9 ct9), sl9⟩)
    (c9 : PySem.W.codeIn K cd9 "least_grey" = true)
    (k9 : PySem.W.keepIn K (.ref f9) = true)
    (a10 : PySem.W.nsIn K mainGlobals "mark_step" = some (some (.ref f10)))
    (l10 : K.lookup f10 = some ⟨oc10, od10, .func (PySem.W.fnOf "mark_step" "mark_step" (defArgs st_mark_step) (defBody st_mark_step) (defScope st_mark_step) .none kV10 dc10 pm10 an10 cd10 ct10), sl10⟩)
    (c10 : PySem.W.codeIn K cd10 "mark_step" = true)
    (k10 : PySem.W.keepIn K (.ref f10) = true)
    (a11 : PySem.W.nsIn K mainGlobals "sweep_step" = some (some (.ref f11)))
    (l11 : K.lookup f11 = some ⟨oc11, od11, .func (PySem.W.fnOf "sweep_step" "sweep_step" (defArgs st_sweep_step) (defBody st_sweep_step) (defScope st_sweep_step) .none kV11 dc11 pm11 an11 cd11 ct11), sl11⟩)
    (c11 : PySem.W.codeIn K cd11 "sweep_step" = true)
    (k11 : PySem.W.keepIn K (.ref f11) = true)
    (a12 : PySem.W.nsIn K mainGlobals "work_steps" = some (some (.ref f12)))
    (l12 : K.lookup f12 = some ⟨oc12, od12, .func (PySem.W.fnOf "work_steps" "work_steps" (defArgs st_work_steps) (defBody st_work_steps) (defScope st_work_steps) .none kV12 dc12 pm12 an12 cd12 ct12), sl12⟩)
    (c12 : PySem.W.codeIn K cd12 "work_steps" = true)
    (k12 : PySem.W.keepIn K (.ref f12) = true)
    (a13 : PySem.W.nsIn K mainGlobals "tell_phase" = some (some (.ref f13)))
    (l13 : K.lookup f13 = some ⟨oc13, od13, .func (PySem.W.fnOf "tell_phase" "tell_phase" (defArgs st_tell_phase) (defBody st_tell_phase) (defScope st_tell_phase) .none kV13 dc13 pm13 an13 cd13 ct13), sl13⟩)
    (c13 : PySem.W.codeIn K cd13 "tell_phase" = true)
    (k13 : PySem.W.keepIn K (.ref f13) = true)
    (a14 : PySem.W.nsIn K mainGlobals "new_object" = some (some (.ref f14)))
    (l14 : K.lookup f14 = some ⟨oc14, od14, .func (PySem.W.fnOf "new_object" "new_object" (defArgs st_new_object) (defBody st_new_object) (defScope st_new_object) .none kV14 dc14 pm14 an14 cd14 ct14), sl14⟩)
    (c14 : PySem.W.codeIn K cd14 "new_object" = true)
    (k14 : PySem.W.keepIn K (.ref f14) = true)
    (a15 : PySem.W.nsIn K mainGlobals "get_from_slot" = some (some (.ref f15)))
    (l15 : K.lookup f15 = some ⟨oc15, od15, .func (PySem.W.fnOf "get_from_slot" "get_from_slot" (defArgs st_get_from_slot) (defBody st_get_from_slot) (defScope st_get_from_slot) .none kV15 dc15 pm15 an15 cd15 ct15), sl15⟩)
    (c15 : PySem.W.codeIn K cd15 "get_from_slot" = true)
    (k15 : PySem.W.keepIn K (.ref f15) = true)
    (a16 : PySem.W.nsIn K mainGlobals "put_into_slot" = some (some (.ref f16)))
    (l16 : K.lookup f16 = some ⟨oc16, od16, .func (PySem.W.fnOf "put_into_slot" "put_into_slot" (defArgs st_put_into_slot) (defBody st_put_into_slot) (defScope st_put_into_slot) .none kV16 dc16 pm16 an16 cd16 ct16), sl16⟩)
    (c16 : PySem.W.codeIn K cd16 "put_into_slot" = true)
    (k16 : PySem.W.keepIn K (.ref f16) = true)
    (a17 : PySem.W.nsIn K mainGlobals "set_value" = some (some (.ref f17)))
    (l17 : K.lookup f17 = some ⟨oc17, od17, .func (PySem.W.fnOf "set_value" "set_value" (defArgs st_set_value) (defBody st_set_value) (defScope st_set_value) .none kV17 dc17 pm17 an17 cd17 ct17), sl17⟩)
    (c17 : PySem.W.codeIn K cd17 "set_value" = true)
    (k17 : PySem.W.keepIn K (.ref f17) = true)
    (a18 : PySem.W.nsIn K mainGlobals "copy_value" = some (some (.ref f18)))
    (l18 : K.lookup f18 = some ⟨oc18, od18, .func (PySem.W.fnOf "copy_value" "copy_value" (defArgs st_copy_value) (defBody st_copy_value) (defScope st_copy_value) .none kV18 dc18 pm18 an18 cd18 ct18), sl18⟩)
    (c18 : PySem.W.codeIn K cd18 "copy_value" = true)
    (k18 : PySem.W.keepIn K (.ref f18) = true)
    (a19 : PySem.W.nsIn K mainGlobals "meet" = some (some (.ref f19)))
    (l19 : K.lookup f19 = some ⟨oc19, od19, .func (PySem.W.fnOf "meet" "meet" (defArgs st_meet) (defBody st_meet) (defScope st_meet) .none kV19 dc19 pm19 an19 cd19 ct19), sl19⟩)
    (c19 : PySem.W.codeIn K cd19 "meet" = true)
    (k19 : PySem.W.keepIn K (.ref f19) = true)
    (a20 : PySem.W.nsIn K mainGlobals "objects_met" = some (some (.ref f20)))
    (l20 : K.lookup f20 = some ⟨oc20, od20, .func (PySem.W.fnOf "objects_met" "objects_met" (defArgs st_objects_met) (defBody st_objects_met) (defScope st_objects_met) .none kV20 dc20 pm20 an20 cd20 ct20), sl20⟩)
    (c20 : PySem.W.codeIn K cd20 "objects_met" = true)
    (k20 : PySem.W.keepIn K (.ref f20) = true)
    (a21 : PySem.W.nsIn K mainGlobals "told_value" = some (some (.ref f21)))
    (l21 : K.lookup f21 = some ⟨oc21, od21, .func (PySem.W.fnOf "told_value" "told_value" (defArgs st_told_value) (defBody st_told_value) (defScope st_told_value) .none kV21 dc21 pm21 an21 cd21 ct21), sl21⟩)
    (c21 : PySem.W.codeIn K cd21 "told_value" = true)
    (k21 : PySem.W.keepIn K (.ref f21) = true)
    (a22 : PySem.W.nsIn K mainGlobals "look_at" = some (some (.ref f22)))
    (l22 : K.lookup f22 = some ⟨oc22, od22, .func (PySem.W.fnOf "look_at" "look_at" (defArgs st_look_at) (defBody st_look_at) (defScope st_look_at) .none kV22 dc22 pm22 an22 cd22 ct22), sl22⟩)
    (c22 : PySem.W.codeIn K cd22 "look_at" = true)
    (k22 : PySem.W.keepIn K (.ref f22) = true)
    (a23 : PySem.W.nsIn K mainGlobals "look_at_slot" = some (some (.ref f23)))
    (l23 : K.lookup f23 = some ⟨oc23, od23, .func (PySem.W.fnOf "look_at_slot" "look_at_slot" (defArgs st_look_at_slot) (defBody st_look_at_slot) (defScope st_look_at_slot) .none kV23 dc23 pm23 an23 cd23 ct23), sl23⟩)
    (c23 : PySem.W.codeIn K cd23 "look_at_slot" = true)
    (k23 : PySem.W.keepIn K (.ref f23) = true)
    (a24 : PySem.W.nsIn K mainGlobals "tell_same" = some (some (.ref f24)))
    (l24 : K.lookup f24 = some ⟨oc24, od24, .func (PySem.W.fnOf "tell_same" "tell_same" (defArgs st_tell_same) (defBody st_tell_same) (defScope st_tell_same) .none kV24 dc24 pm24 an24 cd24 ct24), sl24⟩)
    (c24 : PySem.W.codeIn K cd24 "tell_same" = true)
    (k24 : PySem.W.keepIn K (.ref f24) = true)
    (a25 : PySem.W.nsIn K mainGlobals "told_in_tree" = some (some (.ref f25)))
    (l25 : K.lookup f25 = some ⟨oc25, od25, .func (PySem.W.fnOf "told_in_tree" "told_in_tree" (defArgs st_told_in_tree) (defBody st_told_in_tree) (defScope st_told_in_tree) .none kV25 dc25 pm25 an25 cd25 ct25), sl25⟩)
    (c25 : PySem.W.codeIn K cd25 "told_in_tree" = true)
    (k25 : PySem.W.keepIn K (.ref f25) = true)
    (a26 : PySem.W.nsIn K mainGlobals "tell_tree" = some (some (.ref f26)))
    (l26 : K.lookup f26 = some ⟨oc26, od26, .func (PySem.W.fnOf "tell_tree" "tell_tree" (defArgs st_tell_tree) (defBody st_tell_tree) (defScope st_tell_tree) .none kV26 dc26 pm26 an26 cd26 ct26), sl26⟩)
    (c26 : PySem.W.codeIn K cd26 "tell_tree" = true)
    (k26 : PySem.W.keepIn K (.ref f26) = true)
    (a27 : PySem.W.nsIn K mainGlobals "tell_count" = some (some (.ref f27)))
    (l27 : K.lookup f27 = some ⟨oc27, od27, .func (PySem.W.fnOf "tell_count" "tell_count" (defArgs st_tell_count) (defBody st_tell_count) (defScope st_tell_count) .none kV27 dc27 pm27 an27 cd27 ct27), sl27⟩)
    (c27 : PySem.W.codeIn K cd27 "tell_count" = true)
    (k27 : PySem.W.keepIn K (.ref f27) = true)
    (a28 : PySem.W.nsIn K mainGlobals "answer_move" = some (some (.ref f28)))
    (l28 : K.lookup f28 = some ⟨oc28, od28, .func (PySem.W.fnOf "answer_move" "answer_move" (defArgs st_answer_move) (defBody st_answer_move) (defScope st_answer_move) .none kV28 dc28 pm28 an28 cd28 ct28), sl28⟩)
    (c28 : PySem.W.codeIn K cd28 "answer_move" = true)
    (k28 : PySem.W.keepIn K (.ref f28) = true)
    (a29 : PySem.W.nsIn K mainGlobals "answer_view" = some (some (.ref f29)))
    (l29 : K.lookup f29 = some ⟨oc29, od29, .func (PySem.W.fnOf "answer_view" "answer_view" (defArgs st_answer_view) (defBody st_answer_view) (defScope st_answer_view) .none kV29 dc29 pm29 an29 cd29 ct29), sl29⟩)
    (c29 : PySem.W.codeIn K cd29 "answer_view" = true)
    (k29 : PySem.W.keepIn K (.ref f29) = true)
    (a30 : PySem.W.nsIn K mainGlobals "answer_round" = some (some (.ref f30)))
    (l30 : K.lookup f30 = some ⟨oc30, od30, .func (PySem.W.fnOf "answer_round" "answer_round" (defArgs st_answer_round) (defBody st_answer_round) (defScope st_answer_round) .none kV30 dc30 pm30 an30 cd30 ct30), sl30⟩)
    (c30 : PySem.W.codeIn K cd30 "answer_round" = true)
    (k30 : PySem.W.keepIn K (.ref f30) = true)
    (a31 : PySem.W.nsIn K mainGlobals "answer_call" = some (some (.ref f31)))
    (l31 : K.lookup f31 = some ⟨oc31, od31, .func (PySem.W.fnOf "answer_call" "answer_call" (defArgs st_answer_call) (defBody st_answer_call) (defScope st_answer_call) .none kV31 dc31 pm31 an31 cd31 ct31), sl31⟩)
    (c31 : PySem.W.codeIn K cd31 "answer_call" = true)
    (k31 : PySem.W.keepIn K (.ref f31) = true)
    (a32 : PySem.W.nsIn K mainGlobals "answers" = some (some (.ref f32)))
    (l32 : K.lookup f32 = some ⟨oc32, od32, .func (PySem.W.fnOf "answers" "answers" (defArgs st_answers) (defBody st_answers) (defScope st_answers) .none kV32 dc32 pm32 an32 cd32 ct32), sl32⟩)
    (c32 : PySem.W.codeIn K cd32 "answers" = true)
    (k32 : PySem.W.keepIn K (.ref f32) = true)
    (pg_HeapObject : PySem.W.plainGet K CHeapObject Str.empty = true)
    (hd_HeapObject : PySem.W.hasDictIn K CHeapObject = true)
    (po_HeapObject : PySem.W.plainOver K CHeapObject = true)
    (sa_HeapObject : PySem.W.findIn K (.ref CHeapObject) "__setattr__" = some (some (.builtin "object.__setattr__")))
    (mk_HeapObject : PySem.W.makesIn K CHeapObject = true)
    (kc_HeapObject : PySem.W.keepIn K (.ref CHeapObject) = true)
    (n_HeapObject_slots : PySem.W.findIn K (.ref CHeapObject) "slots" = some none)
    (n_HeapObject_cell : PySem.W.findIn K (.ref CHeapObject) "cell" = some none)
    (n_HeapObject_colour : PySem.W.findIn K (.ref CHeapObject) "colour" = some none)
    (kit_HeapObject : PySem.W.kitOne K (.ref CHeapObject) (.ref CHeapObject) = some true)
    (kitN_HeapObject : PySem.W.kitOne K (.type "NoneType") (.ref CHeapObject) = some false)
    (kitI_HeapObject : PySem.W.kitOne K (.type "int") (.ref CHeapObject) = some false)
    (c1_HeapObject : PySem.W.findIn K (.ref CHeapObject) "__class__" = some (some (.builtin "object.__class__")))
    (c2_HeapObject : PySem.W.specialIn K (.builtin "object.__class__") "__get__" = some (some (.builtin "getset_descriptor.__get__")))
    (c3_HeapObject : PySem.W.takesIn K (.builtin "object.__class__") = some true)
    (c4_HeapObject : PySem.W.mroIn K CHeapObject (.type "object") = some true)
    (e1_HeapObject : PySem.W.findIn K (.ref CHeapObject) "__eq__" = some (some (.builtin "object.__eq__")))
    (e2_HeapObject : PySem.W.mroIn K CHeapObject (.type "int") = some false)
    (e3_HeapObject : PySem.W.mroIn K CHeapObject (.type "NoneType") = some false)
    (pg_Heap : PySem.W.plainGet K CHeap Str.empty = true)
    (hd_Heap : PySem.W.hasDictIn K CHeap = true)
    (po_Heap : PySem.W.plainOver K CHeap = true)
    (sa_Heap : PySem.W.findIn K (.ref CHeap) "__setattr__" = some (some (.builtin "object.__setattr__")))
    (mk_Heap : PySem.W.makesIn K CHeap = true)
    (kc_Heap : PySem.W.keepIn K (.ref CHeap) = true)
    (n_Heap_cells : PySem.W.findIn K (.ref CHeap) "cells" = some none)
    (n_Heap_registers : PySem.W.findIn K (.ref CHeap) "registers" = some none)
    (n_Heap_phase : PySem.W.findIn K (.ref CHeap) "phase" = some none)
    (n_Heap_next_cell : PySem.W.findIn K (.ref CHeap) "next_cell" = some none)
    (kit_Heap : PySem.W.kitOne K (.ref CHeap) (.ref CHeap) = some true)
    (kitN_Heap : PySem.W.kitOne K (.type "NoneType") (.ref CHeap) = some false)
    (kitI_Heap : PySem.W.kitOne K (.type "int") (.ref CHeap) = some false)
    (c1_Heap : PySem.W.findIn K (.ref CHeap) "__class__" = some (some (.builtin "object.__class__")))
    (c2_Heap : PySem.W.specialIn K (.builtin "object.__class__") "__get__" = some (some (.builtin "getset_descriptor.__get__")))
    (c3_Heap : PySem.W.takesIn K (.builtin "object.__class__") = some true)
    (c4_Heap : PySem.W.mroIn K CHeap (.type "object") = some true)
    (e1_Heap : PySem.W.findIn K (.ref CHeap) "__eq__" = some (some (.builtin "object.__eq__")))
    (e2_Heap : PySem.W.mroIn K CHeap (.type "int") = some false)
    (e3_Heap : PySem.W.mroIn K CHeap (.type "NoneType") = some false)
    (g_OUT_OF_RANGE : PySem.W.nsIn K mainGlobals "OUT_OF_RANGE" = some (some (.int (-1) t0)))
    (g_NOT_IDLE : PySem.W.nsIn K mainGlobals "NOT_IDLE" = some (some (.int (-3) t1)))
    (g_NO_SUCH_SLOT : PySem.W.nsIn K mainGlobals "NO_SUCH_SLOT" = some (some (.int (-4) t2)))
    (g_NO_OBJECT : PySem.W.nsIn K mainGlobals "NO_OBJECT" = some (some (.int (-5) t3)))
    (g_NO_FREE_CELL : PySem.W.nsIn K mainGlobals "NO_FREE_CELL" = some (some (.int (-6) t4)))
    (g_CELL_COUNT : PySem.W.nsIn K mainGlobals "CELL_COUNT" = some (some (.int (64) t5)))
    (g_REGISTER_COUNT : PySem.W.nsIn K mainGlobals "REGISTER_COUNT" = some (some (.int (8) t6)))
    (g_MOST_SLOTS : PySem.W.nsIn K mainGlobals "MOST_SLOTS" = some (some (.int (8) t7)))
    (g_WHITE : PySem.W.nsIn K mainGlobals "WHITE" = some (some (.int (0) t8)))
    (g_GREY : PySem.W.nsIn K mainGlobals "GREY" = some (some (.int (1) t9)))
    (g_BLACK : PySem.W.nsIn K mainGlobals "BLACK" = some (some (.int (2) t10)))
    (g_IDLE : PySem.W.nsIn K mainGlobals "IDLE" = some (some (.int (0) t11)))
    (g_MARKING : PySem.W.nsIn K mainGlobals "MARKING" = some (some (.int (1) t12)))
    (g_SWEEPING : PySem.W.nsIn K mainGlobals "SWEEPING" = some (some (.int (2) t13)))
    (g_MOST_STEPS : PySem.W.nsIn K mainGlobals "MOST_STEPS" = some (some (.int (1000) t14)))
    (g_NEW : PySem.W.nsIn K mainGlobals "NEW" = some (some (.int (0) t15)))
    (g_GET : PySem.W.nsIn K mainGlobals "GET" = some (some (.int (1) t16)))
    (g_PUT : PySem.W.nsIn K mainGlobals "PUT" = some (some (.int (2) t17)))
    (g_NUM : PySem.W.nsIn K mainGlobals "NUM" = some (some (.int (3) t18)))
    (g_CLEAR : PySem.W.nsIn K mainGlobals "CLEAR" = some (some (.int (4) t19)))
    (g_COPY : PySem.W.nsIn K mainGlobals "COPY" = some (some (.int (5) t20)))
    (g_LOOK : PySem.W.nsIn K mainGlobals "LOOK" = some (some (.int (6) t21)))
    (g_SLOT : PySem.W.nsIn K mainGlobals "SLOT" = some (some (.int (7) t22)))
    (g_SAME : PySem.W.nsIn K mainGlobals "SAME" = some (some (.int (8) t23)))
    (g_TREE : PySem.W.nsIn K mainGlobals "TREE" = some (some (.int (9) t24)))
    (g_BEGIN : PySem.W.nsIn K mainGlobals "BEGIN" = some (some (.int (10) t25)))
    (g_WORK : PySem.W.nsIn K mainGlobals "WORK" = some (some (.int (11) t26)))
    (g_PHASE : PySem.W.nsIn K mainGlobals "PHASE" = some (some (.int (12) t27)))
    (t_GIVEN_COUNTS : PySem.W.nsIn K mainGlobals "GIVEN_COUNTS" = some (some (.ref ta0)))
    (tl_GIVEN_COUNTS : K.lookup ta0 = some to0)
    (td_GIVEN_COUNTS : to0.cls = .type "tuple" ∧ to0.data = .seq ti0 tn0)
    (tv_GIVEN_COUNTS : Vals [V.int (2), V.int (3), V.int (3), V.int (2), V.int (1), V.int (2), V.int (1), V.int (2), V.int (2), V.int (1), V.int (0), V.int (1), V.int (0), V.int (0)] ti0.toList)
    (tz_GIVEN_COUNTS : ti0.size ≤ sizeLine)
    (b_isinstance : PySem.W.nsIn K mainGlobals "isinstance" = some none)
    (b_len : PySem.W.nsIn K mainGlobals "len" = some none)
    (b_range : PySem.W.nsIn K mainGlobals "range" = some none)
    : ∃ fd : FuncData, (∀ (s : Shared) (us : List Value), us.length = (["calls"] : List Str).length → BindsTo s fd ⟨us, []⟩ ((["calls"] : List Str).zip us)) ∧ ∀ base : Heap, K.In base → base.Ns mainGlobals mg → FnOk P w K mg base CX0 6 fa fd ["calls"] (spAns K) := by
  have e := hfa.symm.trans (PySem.W.mg_of X G a32)
  cases e
  have T : Txt K mg CHeapObject CHeap := ⟨⟨pg_HeapObject, hd_HeapObject, po_HeapObject, sa_HeapObject⟩, n_HeapObject_slots, n_HeapObject_cell, n_HeapObject_colour, PySem.W.mg_of X G aC_HeapObject, kit_HeapObject, kitN_HeapObject, kitI_HeapObject, c1_HeapObject, c2_HeapObject, c3_HeapObject, c4_HeapObject, e1_HeapObject, e2_HeapObject, e3_HeapObject, ⟨pg_Heap, hd_Heap, po_Heap, sa_Heap⟩, n_Heap_cells, n_Heap_registers, n_Heap_phase, n_Heap_next_cell, PySem.W.mg_of X G aC_Heap, kit_Heap, kitN_Heap, kitI_Heap, c1_Heap, c2_Heap, c3_Heap, c4_Heap, e1_Heap, e2_Heap, e3_Heap, ⟨_, PySem.W.mg_of X G g_OUT_OF_RANGE⟩, ⟨_, PySem.W.mg_of X G g_NOT_IDLE⟩, ⟨_, PySem.W.mg_of X G g_NO_SUCH_SLOT⟩, ⟨_, PySem.W.mg_of X G g_NO_OBJECT⟩, ⟨_, PySem.W.mg_of X G g_NO_FREE_CELL⟩, ⟨_, PySem.W.mg_of X G g_CELL_COUNT⟩, ⟨_, PySem.W.mg_of X G g_REGISTER_COUNT⟩, ⟨_, PySem.W.mg_of X G g_MOST_SLOTS⟩, ⟨_, PySem.W.mg_of X G g_WHITE⟩, ⟨_, PySem.W.mg_of X G g_GREY⟩, ⟨_, PySem.W.mg_of X G g_BLACK⟩, ⟨_, PySem.W.mg_of X G g_IDLE⟩, ⟨_, PySem.W.mg_of X G g_MARKING⟩, ⟨_, PySem.W.mg_of X G g_SWEEPING⟩, ⟨_, PySem.W.mg_of X G g_MOST_STEPS⟩, ⟨_, PySem.W.mg_of X G g_NEW⟩, ⟨_, PySem.W.mg_of X G g_GET⟩, ⟨_, PySem.W.mg_of X G g_PUT⟩, ⟨_, PySem.W.mg_of X G g_NUM⟩, ⟨_, PySem.W.mg_of X G g_CLEAR⟩, ⟨_, PySem.W.mg_of X G g_COPY⟩, ⟨_, PySem.W.mg_of X G g_LOOK⟩, ⟨_, PySem.W.mg_of X G g_SLOT⟩, ⟨_, PySem.W.mg_of X G g_SAME⟩, ⟨_, PySem.W.mg_of X G g_TREE⟩, ⟨_, PySem.W.mg_of X G g_BEGIN⟩, ⟨_, PySem.W.mg_of X G g_WORK⟩, ⟨_, PySem.W.mg_of X G g_PHASE⟩, ⟨_, PySem.W.mg_of X G t_GIVEN_COUNTS, fun _ => .inr ⟨_, _, _, tl_GIVEN_COUNTS, td_GIVEN_COUNTS.1, td_GIVEN_COUNTS.2, tz_GIVEN_COUNTS, tv_GIVEN_COUNTS⟩⟩, PySem.W.mg_none_of X G b_isinstance, PySem.W.mg_none_of X G b_len, PySem.W.mg_none_of X G b_range⟩
  have F_HeapObject_init := fun_mk (st := st_HeapObject_init) l0 c0 k0
  have b_HeapObject_init := F_HeapObject_init.binds (ps := ["self", "slot_count", "cell", "colour"]) fun _ _ _ _ _ _ us hl => match us, hl with | [_, _, _, _], _ => rfl
  have F_Heap_init := fun_mk (st := st_Heap_init) l1 c1 k1
  have b_Heap_init := F_Heap_init.binds (ps := ["self"]) fun _ _ _ _ _ _ us hl => match us, hl with | [_], _ => rfl
  have F_is_register := fun_mk (st := st_is_register) l2 c2 k2
  have b_is_register := F_is_register.binds (ps := ["number"]) fun _ _ _ _ _ _ us hl => match us, hl with | [_], _ => rfl
  have F_least_free_cell := fun_mk (st := st_least_free_cell) l3 c3 k3
  have b_least_free_cell := F_least_free_cell.binds (ps := ["heap"]) fun _ _ _ _ _ _ us hl => match us, hl with | [_], _ => rfl
  have F_slot_refusal := fun_mk (st := st_slot_refusal) l4 c4 k4
  have b_slot_refusal := F_slot_refusal.binds (ps := ["heap", "r", "k"]) fun _ _ _ _ _ _ us hl => match us, hl with | [_, _, _], _ => rfl
  have F_shade := fun_mk (st := st_shade) l5 c5 k5
  have b_shade := F_shade.binds (ps := ["value"]) fun _ _ _ _ _ _ us hl => match us, hl with | [_], _ => rfl
  have F_shade_got := fun_mk (st := st_shade_got) l6 c6 k6
  have b_shade_got := F_shade_got.binds (ps := ["heap", "value"]) fun _ _ _ _ _ _ us hl => match us, hl with | [_, _], _ => rfl
  have F_birth_colour := fun_mk (st := st_birth_colour) l7 c7 k7
  have b_birth_colour := F_birth_colour.binds (ps := ["heap", "cell"]) fun _ _ _ _ _ _ us hl => match us, hl with | [_, _], _ => rfl
  have F_begin_round := fun_mk (st := st_begin_round) l8 c8 k8
  have b_begin_round := F_begin_round.binds (ps := ["heap"]) fun _ _ _ _ _ _ us hl => match us, hl with | [_], _ => rfl
  have F_least_grey := fun_mk (st := st_least_grey) l9 c9 k9
  have b_least_grey := F_least_grey.binds (ps := ["heap"]) fun _ _ _ _ _ _ us hl => match us, hl with | [_], _ => rfl
  have F_mark_step := fun_mk (st := st_mark_step) l10 c10 k10
  have b_mark_step := F_mark_step.binds (ps := ["heap"]) fun _ _ _ _ _ _ us hl => match us, hl with | [_], _ => rfl
  have F_sweep_step := fun_mk (st := st_sweep_step) l11 c11 k11
  have b_sweep_step := F_sweep_step.binds (ps := ["heap"]) fun _ _ _ _ _ _ us hl => match us, hl with | [_], _ => rfl
  have F_work_steps := fun_mk (st := st_work_steps) l12 c12 k12
  have b_work_steps := F_work_steps.binds (ps := ["heap", "n"]) fun _ _ _ _ _ _ us hl => match us, hl with | [_, _], _ => rfl
  have F_tell_phase := fun_mk (st := st_tell_phase) l13 c13 k13
  have b_tell_phase := F_tell_phase.binds (ps := ["heap"]) fun _ _ _ _ _ _ us hl => match us, hl with | [_], _ => rfl
  have F_new_object := fun_mk (st := st_new_object) l14 c14 k14
  have b_new_object := F_new_object.binds (ps := ["heap", "r", "n"]) fun _ _ _ _ _ _ us hl => match us, hl with | [_, _, _], _ => rfl
  have F_get_from_slot := fun_mk (st := st_get_from_slot) l15 c15 k15
  have b_get_from_slot := F_get_from_slot.binds (ps := ["heap", "d", "r", "k"]) fun _ _ _ _ _ _ us hl => match us, hl with | [_, _, _, _], _ => rfl
  have F_put_into_slot := fun_mk (st := st_put_into_slot) l16 c16 k16
  have b_put_into_slot := F_put_into_slot.binds (ps := ["heap", "r", "k", "d"]) fun _ _ _ _ _ _ us hl => match us, hl with | [_, _, _, _], _ => rfl
  have F_set_value := fun_mk (st := st_set_value) l17 c17 k17
  have b_set_value := F_set_value.binds (ps := ["heap", "r", "value"]) fun _ _ _ _ _ _ us hl => match us, hl with | [_, _, _], _ => rfl
  have F_copy_value := fun_mk (st := st_copy_value) l18 c18 k18
  have b_copy_value := F_copy_value.binds (ps := ["heap", "r", "d"]) fun _ _ _ _ _ _ us hl => match us, hl with | [_, _, _], _ => rfl
  have F_meet := fun_mk (st := st_meet) l19 c19 k19
  have b_meet := F_meet.binds (ps := ["values", "met", "seen"]) fun _ _ _ _ _ _ us hl => match us, hl with | [_, _, _], _ => rfl
  have F_objects_met := fun_mk (st := st_objects_met) l20 c20 k20
  have b_objects_met := F_objects_met.binds (ps := ["values"]) fun _ _ _ _ _ _ us hl => match us, hl with | [_], _ => rfl
  have F_told_value := fun_mk (st := st_told_value) l21 c21 k21
  have b_told_value := F_told_value.binds (ps := ["value"]) fun _ _ _ _ _ _ us hl => match us, hl with | [_], _ => rfl
  have F_look_at := fun_mk (st := st_look_at) l22 c22 k22
  have b_look_at := F_look_at.binds (ps := ["heap", "r"]) fun _ _ _ _ _ _ us hl => match us, hl with | [_, _], _ => rfl
  have F_look_at_slot := fun_mk (st := st_look_at_slot) l23 c23 k23
  have b_look_at_slot := F_look_at_slot.binds (ps := ["heap", "r", "k"]) fun _ _ _ _ _ _ us hl => match us, hl with | [_, _, _], _ => rfl
  have F_tell_same := fun_mk (st := st_tell_same) l24 c24 k24
  have b_tell_same := F_tell_same.binds (ps := ["heap", "r", "d"]) fun _ _ _ _ _ _ us hl => match us, hl with | [_, _, _], _ => rfl
  have F_told_in_tree := fun_mk (st := st_told_in_tree) l25 c25 k25
  have b_told_in_tree := F_told_in_tree.binds (ps := ["value", "places"]) fun _ _ _ _ _ _ us hl => match us, hl with | [_, _], _ => rfl
  have F_tell_tree := fun_mk (st := st_tell_tree) l26 c26 k26
  have b_tell_tree := F_tell_tree.binds (ps := ["heap", "r"]) fun _ _ _ _ _ _ us hl => match us, hl with | [_, _], _ => rfl
  have F_tell_count := fun_mk (st := st_tell_count) l27 c27 k27
  have b_tell_count := F_tell_count.binds (ps := ["heap"]) fun _ _ _ _ _ _ us hl => match us, hl with | [_], _ => rfl
  have F_answer_move := fun_mk (st := st_answer_move) l28 c28 k28
  have b_answer_move := F_answer_move.binds (ps := ["heap", "call", "given"]) fun _ _ _ _ _ _ us hl => match us, hl with | [_, _, _], _ => rfl
  have F_answer_view := fun_mk (st := st_answer_view) l29 c29 k29
  have b_answer_view := F_answer_view.binds (ps := ["heap", "call", "given"]) fun _ _ _ _ _ _ us hl => match us, hl with | [_, _, _], _ => rfl
  have F_answer_round := fun_mk (st := st_answer_round) l30 c30 k30
  have b_answer_round := F_answer_round.binds (ps := ["heap", "call", "given"]) fun _ _ _ _ _ _ us hl => match us, hl with | [_, _, _], _ => rfl
  have F_answer_call := fun_mk (st := st_answer_call) l31 c31 k31
  have b_answer_call := F_answer_call.binds (ps := ["heap", "call", "given"]) fun _ _ _ _ _ _ us hl => match us, hl with | [_, _, _], _ => rfl
  have F_answers := fun_mk (st := st_answers) l32 c32 k32
  have b_answers := F_answers.binds (ps := ["calls"]) fun _ _ _ _ _ _ us hl => match us, hl with | [_], _ => rfl
  have M_HeapObject : Mk K CHeapObject f0 := ⟨mk_HeapObject, a0, i0, kc_HeapObject⟩
  have M_Heap : Mk K CHeap f1 := ⟨mk_Heap, a1, i1, kc_Heap⟩
  refine ⟨PySem.W.fnOf "answers" "answers" (defArgs st_answers) (defBody st_answers) (defScope st_answers) .none kV32 dc32 pm32 an32 cd32 ct32, fun s us hu => match us, hu with | [_], _ => .of_eq rfl, fun base _ _ => ?_⟩
  have h_is_register : Has P w K mg base 1 "is_register" ["number"] (spReg) := ⟨_, _, PySem.W.mg_of X G a2, k2, b_is_register, ok_reg F_is_register T ⟩
  have h_least_free_cell : Has P w K mg base 1 "least_free_cell" ["heap"] (spFree CHeapObject CHeap) := ⟨_, _, PySem.W.mg_of X G a3, k3, b_least_free_cell, ok_free F_least_free_cell T ⟩
  have h_slot_refusal : Has P w K mg base 1 "slot_refusal" ["heap", "r", "k"] (spRef CHeapObject CHeap) := ⟨_, _, PySem.W.mg_of X G a4, k4, b_slot_refusal, ok_ref F_slot_refusal T ⟩
  have h_shade : Has P w K mg base 1 "shade" ["value"] (spShade CHeapObject CHeap) := ⟨_, _, PySem.W.mg_of X G a5, k5, b_shade, ok_shade F_shade T ⟩
  have h_shade_got : Has P w K mg base 2 "shade_got" ["heap", "value"] (spGot CHeapObject CHeap) := ⟨_, _, PySem.W.mg_of X G a6, k6, b_shade_got, ok_got F_shade_got T h_shade⟩
  have h_birth_colour : Has P w K mg base 1 "birth_colour" ["heap", "cell"] (spBirth CHeapObject CHeap) := ⟨_, _, PySem.W.mg_of X G a7, k7, b_birth_colour, ok_birth F_birth_colour T ⟩
  have h_begin_round : Has P w K mg base 2 "begin_round" ["heap"] (spBegin CHeapObject CHeap) := ⟨_, _, PySem.W.mg_of X G a8, k8, b_begin_round, ok_begin F_begin_round T h_shade⟩
  have h_least_grey : Has P w K mg base 1 "least_grey" ["heap"] (spGrey CHeapObject CHeap) := ⟨_, _, PySem.W.mg_of X G a9, k9, b_least_grey, ok_grey F_least_grey T ⟩
  have h_mark_step : Has P w K mg base 2 "mark_step" ["heap"] (spMark CHeapObject CHeap) := ⟨_, _, PySem.W.mg_of X G a10, k10, b_mark_step, ok_mark F_mark_step T h_shade h_least_grey⟩
  have h_sweep_step : Has P w K mg base 1 "sweep_step" ["heap"] (spSweep CHeapObject CHeap) := ⟨_, _, PySem.W.mg_of X G a11, k11, b_sweep_step, ok_sweep F_sweep_step T ⟩
  have h_work_steps : Has P w K mg base 3 "work_steps" ["heap", "n"] (spWork CHeapObject CHeap) := ⟨_, _, PySem.W.mg_of X G a12, k12, b_work_steps, ok_work F_work_steps T h_mark_step (h_sweep_step.mono (by decide))⟩
  have h_tell_phase : Has P w K mg base 1 "tell_phase" ["heap"] (spPhase CHeapObject CHeap) := ⟨_, _, PySem.W.mg_of X G a13, k13, b_tell_phase, ok_phase F_tell_phase T ⟩
  have h_new_object : Has P w K mg base 3 "new_object" ["heap", "r", "n"] (spNew CHeapObject CHeap) := ⟨_, _, PySem.W.mg_of X G a14, k14, b_new_object, ok_new F_new_object T (h_is_register.mono (by decide)) (h_least_free_cell.mono (by decide)) (h_birth_colour.mono (by decide)) M_HeapObject (ok_initO F_HeapObject_init T) b_HeapObject_init⟩
  have h_get_from_slot : Has P w K mg base 3 "get_from_slot" ["heap", "d", "r", "k"] (spGet CHeapObject CHeap) := ⟨_, _, PySem.W.mg_of X G a15, k15, b_get_from_slot, ok_get F_get_from_slot T (h_is_register.mono (by decide)) (h_slot_refusal.mono (by decide)) h_shade_got⟩
  have h_put_into_slot : Has P w K mg base 2 "put_into_slot" ["heap", "r", "k", "d"] (spPut CHeapObject CHeap) := ⟨_, _, PySem.W.mg_of X G a16, k16, b_put_into_slot, ok_put F_put_into_slot T h_is_register h_slot_refusal⟩
  have h_set_value : Has P w K mg base 2 "set_value" ["heap", "r", "value"] (spSet CHeapObject CHeap) := ⟨_, _, PySem.W.mg_of X G a17, k17, b_set_value, ok_set F_set_value T h_is_register⟩
  have h_copy_value : Has P w K mg base 2 "copy_value" ["heap", "r", "d"] (spCpy CHeapObject CHeap) := ⟨_, _, PySem.W.mg_of X G a18, k18, b_copy_value, ok_cpy F_copy_value T h_is_register⟩
  have h_meet : Has P w K mg base 1 "meet" ["values", "met", "seen"] (spMeet CHeapObject CHeap) := ⟨_, _, PySem.W.mg_of X G a19, k19, b_meet, ok_meet F_meet T ⟩
  have h_objects_met : Has P w K mg base 2 "objects_met" ["values"] (spMets CHeapObject CHeap) := ⟨_, _, PySem.W.mg_of X G a20, k20, b_objects_met, ok_mets F_objects_met T h_meet⟩
  have h_told_value : Has P w K mg base 1 "told_value" ["value"] (spTold CHeapObject CHeap) := ⟨_, _, PySem.W.mg_of X G a21, k21, b_told_value, ok_told F_told_value T ⟩
  have h_look_at : Has P w K mg base 2 "look_at" ["heap", "r"] (spLook CHeapObject CHeap) := ⟨_, _, PySem.W.mg_of X G a22, k22, b_look_at, ok_look F_look_at T h_is_register h_told_value⟩
  have h_look_at_slot : Has P w K mg base 2 "look_at_slot" ["heap", "r", "k"] (spSlot CHeapObject CHeap) := ⟨_, _, PySem.W.mg_of X G a23, k23, b_look_at_slot, ok_slot F_look_at_slot T h_is_register h_slot_refusal h_told_value⟩
  have h_tell_same : Has P w K mg base 2 "tell_same" ["heap", "r", "d"] (spSame CHeapObject CHeap) := ⟨_, _, PySem.W.mg_of X G a24, k24, b_tell_same, ok_same F_tell_same T h_is_register⟩
  have h_told_in_tree : Has P w K mg base 1 "told_in_tree" ["value", "places"] (spTT CHeapObject CHeap) := ⟨_, _, PySem.W.mg_of X G a25, k25, b_told_in_tree, ok_tt F_told_in_tree T ⟩
  have h_tell_tree : Has P w K mg base 3 "tell_tree" ["heap", "r"] (spTree CHeapObject CHeap) := ⟨_, _, PySem.W.mg_of X G a26, k26, b_tell_tree, ok_tree F_tell_tree T (h_is_register.mono (by decide)) h_objects_met (h_told_in_tree.mono (by decide))⟩
  have h_tell_count : Has P w K mg base 3 "tell_count" ["heap"] (spCount CHeapObject CHeap) := ⟨_, _, PySem.W.mg_of X G a27, k27, b_tell_count, ok_count F_tell_count T h_objects_met⟩
  have h_answer_move : Has P w K mg base 4 "answer_move" ["heap", "call", "given"] (spRw CHeapObject CHeap 0 5) := ⟨_, _, PySem.W.mg_of X G a28, k28, b_answer_move, ok_answer_move F_answer_move T h_new_object h_get_from_slot (h_put_into_slot.mono (by decide)) (h_set_value.mono (by decide)) (h_copy_value.mono (by decide))⟩
  have h_answer_view : Has P w K mg base 4 "answer_view" ["heap", "call", "given"] (spRw CHeapObject CHeap 6 9) := ⟨_, _, PySem.W.mg_of X G a29, k29, b_answer_view, ok_answer_view F_answer_view T (h_look_at.mono (by decide)) (h_look_at_slot.mono (by decide)) (h_tell_same.mono (by decide)) h_tell_tree⟩
  have h_answer_round : Has P w K mg base 4 "answer_round" ["heap", "call", "given"] (spRw CHeapObject CHeap 10 13) := ⟨_, _, PySem.W.mg_of X G a30, k30, b_answer_round, ok_answer_round F_answer_round T (h_begin_round.mono (by decide)) h_work_steps (h_tell_phase.mono (by decide)) h_tell_count⟩
  have h_answer_call : Has P w K mg base 5 "answer_call" ["heap", "call", "given"] (spAC CHeapObject CHeap) := ⟨_, _, PySem.W.mg_of X G a31, k31, b_answer_call, ok_answer_call F_answer_call T h_answer_move h_answer_view h_answer_round⟩
  exact ok_ans F_answers T T.t_GIVEN_COUNTS M_Heap (ok_initH F_Heap_init T) b_Heap_init h_answer_call
end Sw
end
open PySem PySem.W PyProof.Rows
set_option maxRecDepth 100000 in
set_option maxHeartbeats 0 in
theorem PySem.Challenge.cw_sweptheap_s01_answers_holds : PySem.Challenge.rw_sweptheap_s01_answers.Holds := by
  w_on; k_headS; (case hw => exact ⟨[.list []], by decide +kernel, by decide +kernel⟩)
  k_fillS
  refine L2.walk_specK (r := PySem.Challenge.rw_sweptheap_s01_answers) (k := 6) (CX := L2.CX0) (ps := ["calls"]) (sp := Sw.spAns) (by decide +kernel) rfl rfl ⟨rfl, by decide, by decide⟩ (fun w h Y => PySem.W.kIn_of Y) ?F ?S (fun _ _ _ _ z => z)
  case F =>
    intro w mg fa h Y KX G hmg
    refine' Sw.all_mk KX G hmg ?aC_HeapObject ?aC_Heap ?a0 ?i0 ?l0 ?c0 ?k0 ?a1 ?i1 ?l1 ?c1 ?k1 ?a2 ?l2 ?c2 ?k2 ?a3 ?l3 ?c3 ?k3 ?a4 ?l4 ?c4 ?k4 ?a5 ?l5 ?c5 ?k5 ?a6 ?l6 ?c6 ?k6 ?a7 ?l7 ?c7 ?k7 ?a8 ?l8 ?c8 ?k8 ?a9 ?l9 ?c9 ?k9 ?a10 ?l10 ?c10 ?k10 ?a11 ?l11 ?c11 ?k11 ?a12 ?l12 ?c12 ?k12 ?a13 ?l13 ?c13 ?k13 ?a14 ?l14 ?c14 ?k14 ?a15 ?l15 ?c15 ?k15 ?a16 ?l16 ?c16 ?k16 ?a17 ?l17 ?c17 ?k17 ?a18 ?l18 ?c18 ?k18 ?a19 ?l19 ?c19 ?k19 ?a20 ?l20 ?c20 ?k20 ?a21 ?l21 ?c21 ?k21 ?a22 ?l22 ?c22 ?k22 ?a23 ?l23 ?c23 ?k23 ?a24 ?l24 ?c24 ?k24 ?a25 ?l25 ?c25 ?k25 ?a26 ?l26 ?c26 ?k26 ?a27 ?l27 ?c27 ?k27 ?a28 ?l28 ?c28 ?k28 ?a29 ?l29 ?c29 ?k29 ?a30 ?l30 ?c30 ?k30 ?a31 ?l31 ?c31 ?k31 ?a32 ?l32 ?c32 ?k32 ?pg_HeapObject ?hd_HeapObject ?po_HeapObject ?sa_HeapObject ?mk_HeapObject ?kc_HeapObject ?n_HeapObject_slots ?n_HeapObject_cell ?n_HeapObject_colour ?kit_HeapObject ?kitN_HeapObject ?kitI_HeapObject ?c1_HeapObject ?c2_HeapObject ?c3_HeapObject ?c4_HeapObject ?e1_HeapObject ?e2_HeapObject ?e3_HeapObject ?pg_Heap ?hd_Heap ?po_Heap ?sa_Heap ?mk_Heap ?kc_Heap ?n_Heap_cells ?n_Heap_registers ?n_Heap_phase ?n_Heap_next_cell ?kit_Heap ?kitN_Heap ?kitI_Heap ?c1_Heap ?c2_Heap ?c3_Heap ?c4_Heap ?e1_Heap ?e2_Heap ?e3_Heap ?g_OUT_OF_RANGE ?g_NOT_IDLE ?g_NO_SUCH_SLOT ?g_NO_OBJECT ?g_NO_FREE_CELL ?g_CELL_COUNT ?g_REGISTER_COUNT ?g_MOST_SLOTS ?g_WHITE ?g_GREY ?g_BLACK ?g_IDLE ?g_MARKING ?g_SWEEPING ?g_MOST_STEPS ?g_NEW ?g_GET ?g_PUT ?g_NUM ?g_CLEAR ?g_COPY ?g_LOOK ?g_SLOT ?g_SAME ?g_TREE ?g_BEGIN ?g_WORK ?g_PHASE ?t_GIVEN_COUNTS ?tl_GIVEN_COUNTS ?td_GIVEN_COUNTS ?tv_GIVEN_COUNTS ?tz_GIVEN_COUNTS ?b_isinstance ?b_len ?b_range
    (case aC_HeapObject => k_is)
    (case aC_Heap => k_is)
    (case a0 => k_is)
    (case i0 => k_is)
    (case l0 => k_is)
    (case c0 => k_is)
    (case k0 => k_is)
    (case a1 => k_is)
    (case i1 => k_is)
    (case l1 => k_is)
    (case c1 => k_is)
    (case k1 => k_is)
    (case a2 => k_is)
    (case l2 => k_is)
    (case c2 => k_is)
    (case k2 => k_is)
    (case a3 => k_is)
    (case l3 => k_is)
    (case c3 => k_is)
    (case k3 => k_is)
    (case a4 => k_is)
    (case l4 => k_is)
    (case c4 => k_is)
    (case k4 => k_is)
    (case a5 => k_is)
    (case l5 => k_is)
    (case c5 => k_is)
    (case k5 => k_is)
    (case a6 => k_is)
    (case l6 => k_is)
    (case c6 => k_is)
    (case k6 => k_is)
    (case a7 => k_is)
    (case l7 => k_is)
    (case c7 => k_is)
    (case k7 => k_is)
    (case a8 => k_is)
    (case l8 => k_is)
    (case c8 => k_is)
    (case k8 => k_is)
    (case a9 => k_is)
    (case l9 => k_is)
    (case c9 => k_is)
    (case k9 => k_is)
    (case a10 => k_is)
    (case l10 => k_is)
    (case c10 => k_is)
    (case k10 => k_is)
    (case a11 => k_is)
    (case l11 => k_is)
    (case c11 => k_is)
    (case k11 => k_is)
    (case a12 => k_is)
    (case l12 => k_is)
    (case c12 => k_is)
    (case k12 => k_is)
    (case a13 => k_is)
    (case l13 => k_is)
    (case c13 => k_is)
    (case k13 => k_is)
    (case a14 => k_is)
    (case l14 => k_is)
    (case c14 => k_is)
    (case k14 => k_is)
    (case a15 => k_is)
    (case l15 => k_is)
    (case c15 => k_is)
    (case k15 => k_is)
    (case a16 => k_is)
    (case l16 => k_is)
    (case c16 => k_is)
    (case k16 => k_is)
    (case a17 => k_is)
    (case l17 => k_is)
    (case c17 => k_is)
    (case k17 => k_is)
    (case a18 => k_is)
    (case l18 => k_is)
    (case c18 => k_is)
    (case k18 => k_is)
    (case a19 => k_is)
    (case l19 => k_is)
    (case c19 => k_is)
    (case k19 => k_is)
    (case a20 => k_is)
    (case l20 => k_is)
    (case c20 => k_is)
    (case k20 => k_is)
    (case a21 => k_is)
    (case l21 => k_is)
    (case c21 => k_is)
    (case k21 => k_is)
    (case a22 => k_is)
    (case l22 => k_is)
    (case c22 => k_is)
    (case k22 => k_is)
    (case a23 => k_is)
    (case l23 => k_is)
    (case c23 => k_is)
    (case k23 => k_is)
    (case a24 => k_is)
    (case l24 => k_is)
    (case c24 => k_is)
    (case k24 => k_is)
    (case a25 => k_is)
    (case l25 => k_is)
    (case c25 => k_is)
    (case k25 => k_is)
    (case a26 => k_is)
    (case l26 => k_is)
    (case c26 => k_is)
    (case k26 => k_is)
    (case a27 => k_is)
    (case l27 => k_is)
    (case c27 => k_is)
    (case k27 => k_is)
    (case a28 => k_is)
    (case l28 => k_is)
    (case c28 => k_is)
    (case k28 => k_is)
    (case a29 => k_is)
    (case l29 => k_is)
    (case c29 => k_is)
    (case k29 => k_is)
    (case a30 => k_is)
    (case l30 => k_is)
    (case c30 => k_is)
    (case k30 => k_is)
    (case a31 => k_is)
    (case l31 => k_is)
    (case c31 => k_is)
    (case k31 => k_is)
    (case a32 => k_is)
    (case l32 => k_is)
    (case c32 => k_is)
    (case k32 => k_is)
    (case pg_HeapObject => k_is)
    (case hd_HeapObject => k_is)
    (case po_HeapObject => k_is)
    (case sa_HeapObject => k_is)
    (case mk_HeapObject => k_is)
    (case kc_HeapObject => k_is)
    (case n_HeapObject_slots => k_is)
    (case n_HeapObject_cell => k_is)
    (case n_HeapObject_colour => k_is)
    (case kit_HeapObject => kit_is)
    (case kitN_HeapObject => kit_is)
    (case kitI_HeapObject => kit_is)
    (case c1_HeapObject => k_is)
    (case c2_HeapObject => k_is)
    (case c3_HeapObject => k_is)
    (case c4_HeapObject => k_is)
    (case e1_HeapObject => k_is)
    (case e2_HeapObject => k_is)
    (case e3_HeapObject => k_is)
    (case pg_Heap => k_is)
    (case hd_Heap => k_is)
    (case po_Heap => k_is)
    (case sa_Heap => k_is)
    (case mk_Heap => k_is)
    (case kc_Heap => k_is)
    (case n_Heap_cells => k_is)
    (case n_Heap_registers => k_is)
    (case n_Heap_phase => k_is)
    (case n_Heap_next_cell => k_is)
    (case kit_Heap => kit_is)
    (case kitN_Heap => kit_is)
    (case kitI_Heap => kit_is)
    (case c1_Heap => k_is)
    (case c2_Heap => k_is)
    (case c3_Heap => k_is)
    (case c4_Heap => k_is)
    (case e1_Heap => k_is)
    (case e2_Heap => k_is)
    (case e3_Heap => k_is)
    (case g_OUT_OF_RANGE => k_is)
    (case g_NOT_IDLE => k_is)
    (case g_NO_SUCH_SLOT => k_is)
    (case g_NO_OBJECT => k_is)
    (case g_NO_FREE_CELL => k_is)
    (case g_CELL_COUNT => k_is)
    (case g_REGISTER_COUNT => k_is)
    (case g_MOST_SLOTS => k_is)
    (case g_WHITE => k_is)
    (case g_GREY => k_is)
    (case g_BLACK => k_is)
    (case g_IDLE => k_is)
    (case g_MARKING => k_is)
    (case g_SWEEPING => k_is)
    (case g_MOST_STEPS => k_is)
    (case g_NEW => k_is)
    (case g_GET => k_is)
    (case g_PUT => k_is)
    (case g_NUM => k_is)
    (case g_CLEAR => k_is)
    (case g_COPY => k_is)
    (case g_LOOK => k_is)
    (case g_SLOT => k_is)
    (case g_SAME => k_is)
    (case g_TREE => k_is)
    (case g_BEGIN => k_is)
    (case g_WORK => k_is)
    (case g_PHASE => k_is)
    (case t_GIVEN_COUNTS => k_is)
    (case tl_GIVEN_COUNTS => k_is)
    (case td_GIVEN_COUNTS => exact ⟨rfl, rfl⟩)
    (case tv_GIVEN_COUNTS => exact (.cons ⟨_, rfl⟩ (.cons ⟨_, rfl⟩ (.cons ⟨_, rfl⟩ (.cons ⟨_, rfl⟩ (.cons ⟨_, rfl⟩ (.cons ⟨_, rfl⟩ (.cons ⟨_, rfl⟩ (.cons ⟨_, rfl⟩ (.cons ⟨_, rfl⟩ (.cons ⟨_, rfl⟩ (.cons ⟨_, rfl⟩ (.cons ⟨_, rfl⟩ (.cons ⟨_, rfl⟩ (.cons ⟨_, rfl⟩ .nil)))))))))))))))
    (case tz_GIVEN_COUNTS => decide)
    (case b_isinstance => k_is)
    (case b_len => k_is)
    (case b_range => k_is)
  case S =>
    intro K H xs a hO hwi hask hx
    cases hx with
    | cons h1 h2 =>
      cases h2
      cases h1 with
      | lst hs ha =>
        have e := L2.ints_dw a.1 _ ha
        subst e
        have q : ((Codec.inLen 0 16000 a.1 && a.1.all (Codec.inInt (-9223372036854775807) 9223372036854775807)) && true) = true := hwi
        rw [Bool.and_eq_true, Bool.and_eq_true] at q
        exact ⟨_, a.1, rfl, hs, (Codec.inNat_iff.mp q.1.1).2, hask, fun H' p hp => .lst (L2.SqL.of hp) (L2.dw_ints _)⟩

