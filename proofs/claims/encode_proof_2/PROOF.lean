import PyProof.Rows.All
import Wide.All
import OpenK.AllK
import Wide.FinOn
import PyProof.EqAt
import PyProof.EqKinds
import PyProof.TupleCall
import KE.BitLaws
import Open.SpecLaws
import KE.OsHead
import KE.OsGo
import PySem.Challenge.RW_oneinstruction_s01_encode
section
set_option Elab.async false
set_option linter.all false
set_option maxRecDepth 100000
/-! THE HAND LAYER, for ints, bools, texts, own classes, lists, tuples, dicts, comprehensions, walks over dicts, enumerate, zip, reversed, texts, calls, loops. Paste it whole ahead of your own text; what your proof does not reach may be deleted. -/
namespace L2
open PySem PySem.Spec PyProof.Rows

/-- a key: an int or a str -/
abbrev Key := Sum Int Str
def keyIs : Key → Value → Bool
  | .inl k, v => Value.isInt k v
  | .inr x, v => Value.isStrOf x v
def keyH (w : World) : Key → Int
  | .inl k => hashInt k
  | .inr x => hashStr w x
theorem keyIs_shape : ∀ {k : Key} {v : Value}, keyIs k v = true → (∃ i t, k = Sum.inl i ∧ v = Value.int i t) ∨ (∃ x t, k = Sum.inr x ∧ v = Value.str x t)
  | .inl i, v, h => by
    obtain ⟨t, e⟩ := Value.isInt_shape (k := i) (v := v) h
    exact .inl ⟨i, t, rfl, e⟩
  | .inr x, v, h => by
    obtain ⟨t, e⟩ := Value.isStrOf_shape (x := x) (v := v) h
    exact .inr ⟨x, t, rfl, e⟩
theorem keyIs_int (i : Int) (t : Tok) : keyIs (.inl i) (.int i t) = true := by simp [keyIs, Value.isInt]
theorem keyIs_str (x : Str) (t : Tok) : keyIs (.inr x) (.str x t) = true := by simp [keyIs, Value.isStrOf]
theorem key_ll (a b : Int) : decide ((Sum.inl a : Key) = Sum.inl b) = (a == b) := by
  by_cases e : a = b
  · subst e; simp
  · have h : ¬ (Sum.inl a : Key) = Sum.inl b := fun q => e (Sum.inl.inj q)
    rw [decide_eq_false h]
    exact (beq_eq_false_iff_ne.mpr e).symm
theorem key_rr (a b : Str) : decide ((Sum.inr a : Key) = Sum.inr b) = decide (a = b) := by
  by_cases e : a = b
  · subst e; simp
  · have h : ¬ (Sum.inr a : Key) = Sum.inr b := fun q => e (Sum.inr.inj q)
    rw [decide_eq_false h, decide_eq_false e]
theorem key_lr (a : Int) (b : Str) : decide ((Sum.inl a : Key) = Sum.inr b) = false := decide_eq_false (fun q => nomatch q)
theorem key_rl (a : Str) (b : Int) : decide ((Sum.inr a : Key) = Sum.inl b) = false := decide_eq_false (fun q => nomatch q)

def mixKind (prog : Program) (w : World) : PySem.KeyKind prog w Key where
  is := keyIs
  hash := keyH w
  inj := fun v a b ha hb => by
    rcases keyIs_shape ha with ⟨i, t, rfl, rfl⟩ | ⟨x, t, rfl, rfl⟩
    · rcases keyIs_shape hb with ⟨j, u, rfl, e⟩ | ⟨y, u, rfl, e⟩
      · injection e with e1 _; rw [e1]
      · exact nomatch e
    · rcases keyIs_shape hb with ⟨j, u, rfl, e⟩ | ⟨y, u, rfl, e⟩
      · exact nomatch e
      · injection e with e1 _; rw [e1]
  byValue := fun k v h => by
    rcases keyIs_shape h with ⟨i, t, rfl, rfl⟩ | ⟨x, t, rfl, rfl⟩ <;> rfl
  pyHash := fun hv h => by
    rcases keyIs_shape hv with ⟨i, t, rfl, rfl⟩ | ⟨x, t, rfl, rfl⟩
    · exact wpAny_pyHash_int h
    · exact wpAny_pyHash_str h
  eqBool := fun hu hv h => by
    rcases keyIs_shape hu with ⟨i, t, rfl, rfl⟩ | ⟨x, t, rfl, rfl⟩
    · rcases keyIs_shape hv with ⟨j, u, rfl, rfl⟩ | ⟨y, u, rfl, rfl⟩
      · rw [key_ll] at h; exact wpAny_eqBool_int h
      · rw [key_lr] at h; exact SeqAt.EqAt.int_str i t y u _ _ _ _ h
    · rcases keyIs_shape hv with ⟨j, u, rfl, rfl⟩ | ⟨y, u, rfl, rfl⟩
      · rw [key_rl] at h; exact SeqAt.EqAt.str_int x t j u _ _ _ _ h
      · rw [key_rr] at h; exact wpAny_eqBool_str h
  «strs» := fun k x t v h => by
    rcases keyIs_shape h with ⟨i, u, rfl, e⟩ | ⟨y, u, rfl, e⟩
    · exact nomatch e
    · injection e with e1 _
      subst e1
      cases v <;> rfl

theorem mixKind_int (prog : Program) (w : World) (i : Int) (t : Tok) : (mixKind prog w).is (.inl i) (.int i t) = true := keyIs_int i t
theorem mixKind_str (prog : Program) (w : World) (x : Str) (t : Tok) : (mixKind prog w).is (.inr x) (.str x t) = true := keyIs_str x t
end L2

namespace L2
open PySem PySem.Spec PyProof.Rows

/-- a value, without the heap -/
inductive V where
  | non | bl (b : Bool) | int (i : Int) | str (x : Str) | byt (b : Array UInt8) | flt (b : UInt64) | ref (a : Addr) | ty (n : String)
  deriving DecidableEq

def RelV : V → Value → Prop
  | .non, u => u = Value.none
  | .bl b, u => u = Value.bool b
  | .int i, u => ∃ t, u = Value.int i t
  | .str x, u => ∃ t, u = Value.str x t
  | .byt b, u => ∃ t, u = Value.bytes b t
  | .flt b, u => ∃ t, u = Value.float b t
  | .ref a, u => u = Value.ref a
  | .ty n, u => u = Value.type n

abbrev Vals : List V → List Value → Prop := Paired RelV
theorem Vals.length {xs : List V} {us : List Value} (r : Vals xs us) : xs.length = us.length := Paired.length r
theorem Vals.get : ∀ {xs : List V} {us : List Value} {i : Nat} {x : V}, Vals xs us → xs[i]? = some x → ∃ u, us[i]? = some u ∧ RelV x u
  | _, _, _, _, .nil, e => by simp at e
  | _, _, 0, _, .cons r _, e => by simp at e; subst e; exact ⟨_, rfl, r⟩
  | _, _, i + 1, x, .cons _ t, e => by
    obtain ⟨u, h1, h2⟩ := Vals.get (i := i) (x := x) t (by simpa using e)
    exact ⟨u, by simpa using h1, h2⟩
theorem Vals.append : ∀ {xs ys : List V} {us ws : List Value}, Vals xs us → Vals ys ws → Vals (xs ++ ys) (us ++ ws)
  | _, _, _, _, .nil, s => s
  | _, _, _, _, .cons r t, s => .cons r (Vals.append t s)
theorem Vals.take : ∀ {xs : List V} {us : List Value} (n : Nat), Vals xs us → Vals (xs.take n) (us.take n)
  | _, _, 0, _ => .nil
  | _, _, _ + 1, .nil => .nil
  | _, _, n + 1, .cons r t => .cons r (Vals.take n t)
theorem Vals.drop : ∀ {xs : List V} {us : List Value} (n : Nat), Vals xs us → Vals (xs.drop n) (us.drop n)
  | _, _, 0, r => r
  | _, _, _ + 1, .nil => .nil
  | _, _, n + 1, .cons _ t => Vals.drop n t
def RelO : Option V → Option Value → Prop
  | some v, some u => RelV v u
  | none, none => True
  | _, _ => False
def KV {κ : Type} : List (κ × V) → List (κ × Value) → Prop := Paired fun (p : κ × V) (q : κ × Value) => p.1 = q.1 ∧ RelV p.2 q.2

/-- a key of a dict (00_mix): an int or a text -/
def kV : Key → V
  | .inl i => .int i
  | .inr x => .str x

/-- what stands at a tracked address -/
inductive HO where
  /-- a list -/
  | lst (xs : List V)
  /-- a tuple (never changes) -/
  | tup (xs : List V)
  /-- a dict whose keys are ints and texts; one whose keys are tuples of ints and texts (the empty one is both) -/
  | dK (kvs : List (Key × V)) | dT (kvs : List (List Key × V))
  /-- a set of ints: its members, its size -/
  | set (S : Int → Bool) (n : Nat)
  /-- an instance of the class at C, its dict at dx, its attributes -/
  | ins (C dx : Addr) (fs : List (Str × V))
  /-- the dict of the instance at x -/
  | own (x : Addr)
  /-- the dict of an exception -/
  | xd (fs : List (Str × V))
  /-- a bound method, f of x -/
  | met (f x : Addr)
  /-- a range object lo, lo + 1, .. below hi -/
  | rng (lo hi : Int)
  /-- a thing that is known to the object (the script; a dict while a loop walks it): read, never written while it is so -/
  | frz (o : Obj) (u : HO)
  /-- a code object's table -/
  | tbl (ps : Array Value)
  /-- any other thing, by what is true of its one object (a def of one's own: SetO a S n := HO.ext fun h => ..) -/
  | ext (φ : Heap → Prop)

abbrev Hp := Addr → Option HO
def upd (H : Hp) (a : Addr) (o : HO) : Hp := fun b => if b = a then some o else H b
theorem upd_same {H : Hp} {a : Addr} {o : HO} : upd H a o a = some o := by unfold upd; rw [if_pos rfl]
theorem upd_ne {H : Hp} {a b : Addr} {o : HO} (h : b ≠ a) : upd H a o b = H b := by unfold upd; rw [if_neg h]
theorem upd_upd {H : Hp} {a : Addr} {o u : HO} : upd (upd H a o) a u = upd H a u := by
  funext b; unfold upd; split <;> rfl
/-- two objects of different content stand apart -/
theorem ne_of {H : Hp} {a b : Addr} {o u : HO} (h : H a = some o) (h' : H b = some u) (d : o ≠ u) : a ≠ b := by
  intro e; subst e; rw [h] at h'; exact d (Option.some.inj h')
theorem ne_of_none {H : Hp} {a b : Addr} {o : HO} (h : H a = some o) (h' : H b = none) : a ≠ b := by
  intro e; subst e; rw [h] at h'; cases h'

section
variable (P : Program) (w : World)
def ObjOk (H : Hp) (h : Heap) (a : Addr) : HO → Prop
  | .lst xs => xs.length ≤ sizeLine ∧ ∃ (its : List Value) (n : Nat), Vals xs its ∧ h.get? a = some { cls := .type "list", data := .seq its.toArray n }
  | .tup xs => xs.length ≤ sizeLine ∧ ∃ its : List Value, Vals xs its ∧ IsTup h a its.toArray
  | .dK kvs => kvs.length ≤ sizeLine ∧ (a == sysModules) = false ∧ ∃ vs, KV kvs vs ∧ h.DictOf (mixKind P w) a vs
  | .dT kvs => kvs.length ≤ sizeLine ∧ (a == sysModules) = false ∧ ∃ xs : List (List Key × Addr × Value),
      Paired (fun (p : List Key × V) (q : List Key × Addr × Value) => p.1 = q.1 ∧ H q.2.1 = some (.tup (p.1.map kV)) ∧ RelV p.2 q.2.2) kvs xs ∧
      ∃ o es ep, h.get? a = some o ∧ o.ExactDict ∧ o.data = .dict es ep ∧ es.toList = xs.map (entryOfKey (tupleKind (mixKind P w))) ∧ (xs.map (·.1)).Nodup
  | .set S n => h.SetOf (intKind P w) a S n
  | .ins C dx fs => H dx = some (.own a) ∧ fs.length ≤ 1000 ∧ dx ≠ a ∧ h.get? a = some (PySem.W.instObj C dx) ∧
      ∃ mA, h.Ns1 dx mA ∧ (∀ f, RelO (fs.lookup f) (mA f)) ∧ PySem.Within mA (fs.map (·.1))
  | .own _ => ∃ o, h.get? a = some o
  | .xd fs => ∃ mA, h.Ns1 a mA ∧ ∀ f, RelO (fs.lookup f) (mA f)
  | .rng lo hi => ∃ t u v, h.get? a = some { cls := .type "range", data := .fields #[.int lo t, .int hi u, .int 1 v] }
  | .frz o u => h.get? a = some o ∧ ObjOk H h a u
  | .tbl ps => h.get? a = some { cls := .none, data := .fields ps }
  | .met f x => h.get? a = some (PySem.W.methodObj (.ref f) (.ref x))
  | .ext φ => φ h ∧ (∃ o, h.get? a = some o) ∧ ∀ h1 h2 : Heap, φ h1 → (∀ o, h1.get? a = some o → h2.get? a = some o) → φ h2
/-- the abstract heap is held -/
def HOk (H : Hp) (h : Heap) : Prop := ∀ a o, H a = some o → ObjOk P w H h a o
end

section
variable {P : Program} {w : World} {H H' : Hp} {h h' : Heap} {a : Addr} {o : HO}
theorem ObjOk.lt (x : ObjOk P w H h a o) : a < h.objs.size := by
  cases o with
  | lst xs => obtain ⟨_, _, _, _, e⟩ := x; exact Heap.lt_size e
  | tup xs => obtain ⟨_, _, _, p⟩ := x; exact p.lt
  | dK kvs => obtain ⟨_, _, _, _, o, _, _, e, _⟩ := x; exact Heap.lt_size e
  | dT kvs => obtain ⟨_, _, _, _, o, _, _, e, _⟩ := x; exact Heap.lt_size e
  | set S n => obtain ⟨o, _, _, _, e, _⟩ := x; exact Heap.lt_size e
  | ins C dx fs => obtain ⟨_, _, _, e, _⟩ := x; exact Heap.lt_size e
  | own y => obtain ⟨_, e⟩ := x; exact Heap.lt_size e
  | xd fs => obtain ⟨_, ⟨_, _, _, e, _⟩, _⟩ := x; exact Heap.lt_size e
  | rng lo hi => obtain ⟨_, _, _, e⟩ := x; exact Heap.lt_size e
  | frz ob u => obtain ⟨e, _⟩ := x; exact Heap.lt_size e
  | tbl ps => exact Heap.lt_size (show h.get? a = some _ from x)
  | met f y => exact Heap.lt_size (show h.get? a = some _ from x)
  | ext φ => obtain ⟨_, ⟨_, e⟩, _⟩ := x; exact Heap.lt_size e
theorem Paired.mapP {α β : Type} {F G : α → β → Prop} : ∀ {l₁ : List α} {l₂ : List β}, Paired F l₁ l₂ → (∀ a b, F a b → G a b) → Paired G l₁ l₂
  | _, _, .nil, _ => .nil
  | _, _, .cons r t, f => .cons (f _ _ r) (Paired.mapP t f)
/-- what an object's description leans on: its own object, its own dict, the tuples -/
theorem ObjOk.stay (x : ObjOk P w H h a o) (k : ∀ b u, (b = a ∨ H b = some (.own a)) → h.get? b = some u → h'.get? b = some u)
    (ho : ∀ b, H b = some (.own a) → H' b = some (.own a)) (ht : ∀ b xs, H b = some (.tup xs) → H' b = some (.tup xs)) : ObjOk P w H' h' a o := by
  induction o with
  | lst xs => obtain ⟨z, its, n, r, e⟩ := x; exact ⟨z, its, n, r, k _ _ (.inl rfl) e⟩
  | tup xs => obtain ⟨z, its, r, ob, e, c⟩ := x; exact ⟨z, its, r, ob, k _ _ (.inl rfl) e, c⟩
  | dK kvs => obtain ⟨z, y, vs, r, ob, es, ep, e, c⟩ := x; exact ⟨z, y, vs, r, ob, es, ep, k _ _ (.inl rfl) e, c⟩
  | dT kvs =>
    obtain ⟨z, y, xs, r, ob, es, ep, e, c⟩ := x
    exact ⟨z, y, xs, Paired.mapP r fun p q z => ⟨z.1, ht _ _ z.2.1, z.2.2⟩, ob, es, ep, k _ _ (.inl rfl) e, c⟩
  | set S n => obtain ⟨ob, es, ep, t, e, c⟩ := x; exact ⟨ob, es, ep, t, k _ _ (.inl rfl) e, c⟩
  | ins C dx fs =>
    obtain ⟨d, z, ne, e, mA, ⟨od, es, ep, e2, c⟩, r⟩ := x
    exact ⟨ho _ d, z, ne, k _ _ (.inl rfl) e, mA, ⟨od, es, ep, k _ _ (.inr d) e2, c⟩, r⟩
  | own y => obtain ⟨ob, e⟩ := x; exact ⟨ob, k _ _ (.inl rfl) e⟩
  | xd fs => obtain ⟨mA, ⟨od, es, ep, e, c⟩, r⟩ := x; exact ⟨mA, ⟨od, es, ep, k _ _ (.inl rfl) e, c⟩, r⟩
  | rng lo hi => obtain ⟨t, u, v, e⟩ := x; exact ⟨t, u, v, k _ _ (.inl rfl) e⟩
  | frz ob u ih => obtain ⟨e, q⟩ := x; exact ⟨k _ _ (.inl rfl) e, ih q⟩
  | tbl ps =>
    have e : h.get? a = some { cls := .none, data := .fields ps } := x
    show h'.get? a = some { cls := .none, data := .fields ps }
    exact k a _ (.inl rfl) e
  | met f y =>
    have e : h.get? a = some (PySem.W.methodObj (.ref f) (.ref y)) := x
    show h'.get? a = some (PySem.W.methodObj (.ref f) (.ref y))
    exact k a _ (.inl rfl) e
  | ext φ => obtain ⟨p, ⟨o, e⟩, st⟩ := x; exact ⟨st _ _ p fun o q => k _ _ (.inl rfl) q, ⟨o, k _ _ (.inl rfl) e⟩, st⟩
theorem HOk.lt (x : HOk P w H h) (e : H a = some o) : a < h.objs.size := (x a o e).lt
theorem HOk.fresh (x : HOk P w H h) (e : h.objs.size ≤ a) : H a = none := by
  cases q : H a with
  | none => rfl
  | some u => exact absurd (Nat.lt_of_lt_of_le (x.lt q) e) (Nat.lt_irrefl _)
/-- every object of the heap is kept -/
theorem HOk.kept (x : HOk P w H h) (k : ∀ b u, h.get? b = some u → h'.get? b = some u) : HOk P w H h' := fun a o e =>
  (x a o e).stay (fun b u _ q => k b u q) (fun _ q => q) fun _ _ q => q
/-- a new object is laid and tracked -/
theorem HOk.laid (x : HOk P w H h) (k : ∀ b u, h.get? b = some u → h'.get? b = some u) (hp : h.objs.size ≤ a) (new : ObjOk P w (upd H a o) h' a o) : HOk P w (upd H a o) h' := fun b u e => by
  have hn := x.fresh hp
  by_cases hb : b = a
  · subst hb; rw [upd_same] at e; cases e; exact new
  · rw [upd_ne hb] at e
    exact (x b u e).stay (fun c v _ q => k c v q) (fun c q => by rw [upd_ne (ne_of_none q hn)]; exact q) fun c xs q => by rw [upd_ne (ne_of_none q hn)]; exact q
end

/-- what may be read as u: it is u, or a known u -/
def Rd (H : Hp) (a : Addr) (u : HO) : Prop := H a = some u ∨ ∃ o, H a = some (.frz o u)
theorem Rd.ok {P : Program} {w : World} {H : Hp} {h : Heap} {a : Addr} {u : HO} (r : Rd H a u) (x : HOk P w H h) : ObjOk P w H h a u := by
  rcases r with r | ⟨o, r⟩
  · exact x a u r
  · obtain ⟨_, q⟩ := x a _ r
    exact q
/-- what may be written -/
def Mut : Option HO → Prop
  | some (.lst _) => True
  | some (.dK _) => True
  | some (.dT _) => True
  | some (.set _ _) => True
  | some (.ins _ _ _) => True
  | some (.ext _) => True
  | _ => False
section
variable {P : Program} {w : World} {H : Hp} {h h' : Heap} {x e : Addr} {o' : HO}
/-- the object at e is changed: x itself, or the dict of the instance x -/
theorem HOk.write (ok : HOk P w H h) (mu : Mut (H x)) (he : e = x ∨ H e = some (.own x)) (k : ∀ b u, b ≠ e → h.get? b = some u → h'.get? b = some u) (heo : ∃ u, h'.get? e = some u)
    (new : ObjOk P w (upd H x o') h' x o') : HOk P w (upd H x o') h' := fun b u q => by
  have nown : ∀ c y, H c = some (.own y) → c ≠ x := fun c y r z => by subst z; rw [r] at mu; exact mu
  have ntup : ∀ c xs, H c = some (.tup xs) → c ≠ x := fun c xs r z => by subst z; rw [r] at mu; exact mu
  by_cases hb : b = x
  · subst hb; rw [upd_same] at q; cases q; exact new
  · rw [upd_ne hb] at q
    by_cases hbe : b = e
    · have q' : H b = some (.own x) := by
        rcases he with z | z
        · exact absurd (hbe.trans z) hb
        · rw [hbe]; exact z
      rw [q] at q'; cases q'
      obtain ⟨v, hv⟩ := heo
      exact ⟨v, by rw [hbe]; exact hv⟩
    · refine (ok b u q).stay (fun c v hc r => k c v ?_ r) (fun c r => by rw [upd_ne (nown c b r)]; exact r) fun c xs r => by rw [upd_ne (ntup c xs r)]; exact r
      rcases hc with rfl | hc
      · exact hbe
      · rintro rfl
        rcases he with z | z
        · exact nown c b hc z
        · rw [hc] at z; cases z; exact hb rfl
end

/-! ### kept unless tracked; of the frames at fs (the callers') the slots may change (an exception that passes writes there); of the records at ex (iterators) nothing is said -/
structure Un (fs ex : List Addr) (H H' : Hp) (h h' : Heap) : Prop where
  keep : ∀ b o, h.get? b = some o → H b = none → b ∉ fs → b ∉ ex → h'.get? b = some o
  slot : ∀ b o, h.get? b = some o → H b = none → b ∈ fs → b ∉ ex → ∃ sl, h'.get? b = some { o with slots := sl }
  free : ∀ b o, h.get? b = some o → H b = none → b ∉ ex → H' b = none
  there : ∀ b o, h.get? b = some o → b ∉ ex → ∃ o', h'.get? b = some o'
  tups : ∀ b xs, H b = some (.tup xs) → H' b = some (.tup xs)
  frzs : ∀ b o u, H b = some (.frz o u) → H' b = some (.frz o u)
  tbls : ∀ b ps, H b = some (.tbl ps) → ∃ more, H' b = some (.tbl (ps ++ more))
section
variable {fs fs' ex ex' : List Addr} {H H1 H2 : Hp} {h h1 h2 h' : Heap} {a x e : Addr} {o : HO}
theorem Un.any (u : Un fs ex H H1 h h1) {b : Addr} {ob : Obj} (q : h.get? b = some ob) (n : H b = none) (hx : b ∉ ex) : ∃ sl, h1.get? b = some { ob with slots := sl } := by
  by_cases hb : b ∈ fs
  · exact u.slot b ob q n hb hx
  · exact ⟨ob.slots, u.keep b ob q n hb hx⟩
theorem Un.kept (k : ∀ b u, h.get? b = some u → h'.get? b = some u) : Un fs ex H H h h' :=
  ⟨fun b ob q _ _ _ => k b ob q, fun b ob q _ _ _ => ⟨ob.slots, k b ob q⟩, fun _ _ _ n _ => n, fun b ob q _ => ⟨ob, k b ob q⟩, fun _ _ q => q, fun _ _ _ q => q, fun _ ps q => ⟨#[], by rw [q]; simp⟩⟩
theorem Un.refl : Un fs ex H H h h := Un.kept fun _ _ q => q
theorem Un.laid (k : ∀ b u, h.get? b = some u → h'.get? b = some u) (hp : h.objs.size ≤ a) (hn : H a = none) : Un fs ex H (upd H a o) h h' where
  keep := fun b u q _ _ _ => k b u q
  slot := fun b u q _ _ _ => ⟨u.slots, k b u q⟩
  free := fun b u q n _ => by rw [upd_ne (Nat.ne_of_lt (Nat.lt_of_lt_of_le (Heap.lt_size q) hp))]; exact n
  there := fun b u q _ => ⟨u, k b u q⟩
  tups := fun b xs q => by rw [upd_ne (ne_of_none q hn)]; exact q
  frzs := fun b u xs q => by rw [upd_ne (ne_of_none q hn)]; exact q
  tbls := fun b ps q => ⟨#[], by rw [upd_ne (ne_of_none q hn), q]; simp⟩
theorem Un.write (mu : Mut (H x)) (he : e = x ∨ H e = some (.own x)) (k : ∀ b u, b ≠ e → h.get? b = some u → h'.get? b = some u) (heo : ∃ u, h'.get? e = some u) : Un fs ex H (upd H x o) h h' := by
  have hx : ∀ b, H b = none → b ≠ x := fun b n z => by subst z; rw [n] at mu; exact mu
  have hb : ∀ b, H b = none → b ≠ e := fun b n z => by
    subst z
    rcases he with r | r
    · exact hx b n r
    · rw [n] at r; cases r
  have hm : ∀ b u, H b = some u → ¬ Mut (some u) → b ≠ x := fun b u q nm z => by subst z; rw [q] at mu; exact nm mu
  refine ⟨fun b u q n _ _ => k b u (hb b n) q, fun b u q n _ _ => ⟨u.slots, k b u (hb b n) q⟩, fun b u q n _ => by rw [upd_ne (hx b n)]; exact n, fun b u q _ => ?_,
    fun b xs q => by rw [upd_ne (hm b _ q fun z => z)]; exact q, fun b u xs q => by rw [upd_ne (hm b _ q fun z => z)]; exact q, fun b ps q => ⟨#[], by rw [upd_ne (hm b _ q fun z => z), q]; simp⟩⟩
  by_cases hbe : b = e
  · subst hbe; exact heo
  · exact ⟨u, k b u hbe q⟩
end

/-! ### the heap without what is tracked -/
def trk (h : Heap) (H : Hp) : List Addr := (List.range h.objs.size).filter fun a => (H a).isSome
def hidT (h : Heap) (H : Hp) : Heap := PySem.W.hideAll h (trk h H)
theorem hidT_size (h : Heap) (H : Hp) : (hidT h H).objs.size = h.objs.size := PySem.W.hideAll_size _ _
theorem hidT_get {h : Heap} {H : Hp} {b : Addr} {o : Obj} (e : h.get? b = some o) (n : H b = none) : (hidT h H).get? b = some o :=
  PySem.W.hideAll_get _ e fun hm => by
    have q : (H b).isSome = true := (List.mem_filter.mp hm).2
    rw [n] at q; simp at q
theorem of_hidT {h : Heap} {H : Hp} {b : Addr} {o : Obj} (e : (hidT h H).get? b = some o) : h.get? b = some o ∧ H b = none := by
  have e' : h.get? b = some o := PySem.W.of_hideAll (trk h H) e
  refine ⟨e', ?_⟩
  cases q : H b with
  | none => rfl
  | some x =>
    have hm : b ∈ trk h H := List.mem_filter.mpr ⟨List.mem_range.mpr (Heap.lt_size e'), by simp [q]⟩
    have z : (hidT h H).get? b = none := PySem.W.hideAll_none (trk h H) hm
    rw [z] at e; cases e

/-! ### OpenK's ledger, filled with every new object but one -/
def allNews (g h : Heap) (L : Addr) : List (Addr × Obj) := (List.range h.objs.size).filterMap fun a => if a = L ∨ (g.get? a).isSome = true then none else (h.get? a).map fun o => (a, o)
def rest (g h : Heap) (L d : Addr) : List (Addr × Obj) := (allNews g h L).filter fun p => decide (p.1 ≠ d)
end L2

namespace L2
open PySem PySem.Spec PyProof.Rows

/-- the module's facts, over the base: the heap at the law's entry without what is tracked there -/
structure Mod (K : PySem.W.Frag) (mg : Str → Option Value) (base : Heap) : Prop where
  kin : K.In base
  glob : base.Ns mainGlobals mg
  blt : ∃ mb, base.Ns builtinsNs mb ∧ ∀ x : Str, x ≠ "__name__" → mb x = bootBuiltins x
  nolimit : base.NoLimit

/-- the context: a def's body (or a comprehension's block) running. base: fixed through the whole law; s₀, H₀: the entry; outer: the frames whose slots others may change (a def's callers); stack: all frames that run;
   ex: iterators that were made ahead of the entry and are walked here (a comprehension's); fn: the names whose cells were made at the entry (a def: all; a comprehension's block: its own); calm: not within an except suite; pn: pins that every state bears; xe: what is wanted of an exception that leaves the code -/
structure Cx where
  prog : Program
  w : World
  K : PySem.W.Frag
  mg : Str → Option Value
  base : Heap
  A : Around
  N : List Str
  s_0 : Shared
  H_0 : Hp
  env : Env
  outer : List Env
  stack : List Env
  ex : List Addr
  fn : Str → Bool
  calm : Bool
  pn : List (Addr × Obj)
  xe : Value → Shared → Prop
/-- the callers' frames -/
def frs (l : List Env) : List Addr := l.filterMap (·.frame)
abbrev Cx.fs (X : Cx) : List Addr := frs X.outer

def Vis (sc : Scope) (x : Str) : Prop := sc.names.lookup x = some .local ∨ sc.names.lookup x = some .cell ∨ sc.names.lookup x = some .free
def Loc (sc : Scope) (x : Str) : Prop := sc.names.lookup x = some .local ∨ sc.names.lookup x = some .cell
def Look (env : Env) (h : Heap) (m : Str → Option Value) (x : Str) (u : Value) : Prop :=
  (env.kindOf x = some .local ∧ m x = some u) ∨ ((env.kindOf x = some .cell ∨ env.kindOf x = some .free) ∧ ∃ c, env.cells.lookup x = some c ∧ h.IsCell c (some u))

structure Cx.Ok (X : Cx) : Prop where
  mod : Mod X.K X.mg X.base
  kind : X.env.scope.kind = .function
  glob : X.env.globals = mainGlobals
  blt : X.env.builtins = builtinsNs
  above : X.s_0.heap.objs.size ≤ X.env.locals
  inj : ∀ x y c, X.env.cells.lookup x = some c → X.env.cells.lookup y = some c → x = y
  has : ∀ x, (X.env.kindOf x = some .cell ∨ X.env.kindOf x = some .free) → ∃ c, X.env.cells.lookup x = some c
  cab : ∀ x c, X.fn x = true → X.env.cells.lookup x = some c → X.s_0.heap.objs.size ≤ c
  hd : X.calm = true → X.A.handled = none
  frames : X.A.frames = some X.stack
  stk : X.stack = X.outer ∨ (X.stack = X.env :: X.outer ∧ X.env.frame = some X.env.locals)
  exf : ∀ b ∈ X.ex, b ≠ X.env.locals ∧ ∀ x c, X.env.cells.lookup x = some c → c ≠ b
  bs : ∀ b o, X.base.get? b = some o → X.s_0.heap.get? b = some o ∧ X.H_0 b = none
  bsz : X.base.objs.size ≤ X.s_0.heap.objs.size
  noex : ∀ b o, X.base.get? b = some o → b ∉ X.ex
  exfs : ∀ b ∈ X.ex, b ∉ X.fs
  funs : X.s_0.heap.FunFrames X.base X.outer
  frf : ∀ b ∈ X.fs, X.H_0 b = none

structure Inv (X : Cx) (pins : List (Addr × Obj)) (σ : List (Option V)) (H : Hp) (s : Shared) : Prop where
  ok : X.Ok
  os : s.os = X.s_0.os
  bare : AllBare s.gens
  base : Un X.fs X.ex X.H_0 H X.s_0.heap s.heap
  loc : ∃ m, s.heap.Ns X.env.locals m ∧ ∀ (i : Nat) (x : Str) (v : V), X.N[i]? = some x → σ[i]? = some (some v) → Vis X.env.scope x → ∃ u, RelV v u ∧ Look X.env s.heap m x u
  cell : ∀ x c, X.env.cells.lookup x = some c → ∃ v, s.heap.IsCell c v
  free : H X.env.locals = none
  freeC : ∀ x c, X.env.cells.lookup x = some c → H c = none
  pin : ∀ p ∈ X.pn ++ pins, s.heap.get? p.1 = some p.2 ∧ H p.1 = none ∧ p.1 ≠ X.env.locals ∧ p.1 ∉ X.fs ∧ ∀ v, p.2.data ≠ .cell v
  hok : HOk X.prog X.w H s.heap
  len : σ.length = X.N.length

section
variable {X : Cx} {pins : List (Addr × Obj)} {σ : List (Option V)} {H H' : Hp} {s : Shared} {h' : Heap}

theorem Cx.Ok.nofr (ok : X.Ok) {b : Addr} {o : Obj} (e : X.base.get? b = some o) : b ∉ X.fs := fun hb => by
  have := (ok.funs.mem hb).1
  rw [e] at this; cases this
theorem Inv.bs (I : Inv X pins σ H s) : ∀ b o, X.base.get? b = some o → s.heap.get? b = some o ∧ H b = none := fun b o e =>
  ⟨I.base.keep b o (I.ok.bs b o e).1 (I.ok.bs b o e).2 (I.ok.nofr e) (I.ok.noex b o e), I.base.free b o (I.ok.bs b o e).1 (I.ok.bs b o e).2 (I.ok.noex b o e)⟩
theorem Inv.bk (I : Inv X pins σ H s) : ∀ b o, X.base.get? b = some o → s.heap.get? b = some o := fun b o e => (I.bs b o e).1
theorem Inv.mod (I : Inv X pins σ H s) : Mod X.K X.mg X.base := I.ok.mod
theorem Inv.kIn (I : Inv X pins σ H s) : X.K.In s.heap := I.ok.mod.kin.keeps I.bk
theorem Inv.lt (I : Inv X pins σ H s) : X.env.locals < s.heap.objs.size := let ⟨_, hn, _⟩ := I.loc; hn.lt
theorem Inv.sz (I : Inv X pins σ H s) : X.s_0.heap.objs.size ≤ s.heap.objs.size := Nat.le_trans I.ok.above (Nat.le_of_lt I.lt)
theorem Inv.nofs (I : Inv X pins σ H s) {a : Addr} (h : s.heap.objs.size ≤ a) : a ∉ X.fs := fun hb => by
  obtain ⟨_, o, ho, _⟩ := I.ok.funs.mem hb
  exact absurd (Nat.lt_of_lt_of_le (Heap.lt_size ho) (Nat.le_trans I.sz h)) (Nat.lt_irrefl _)
theorem Inv.cne (I : Inv X pins σ H s) : ∀ x c, X.env.cells.lookup x = some c → c ≠ X.env.locals := fun x c e z => by
  obtain ⟨v, o, ho, hd⟩ := I.cell x c e
  obtain ⟨m, ⟨o', es, ep, ho', hd', _⟩, _⟩ := I.loc
  rw [z, ho'] at ho; cases ho; rw [hd'] at hd; cases hd
theorem Inv.funs (I : Inv X pins σ H s) : s.heap.FunFrames X.base X.outer := by
  have all : ∀ (l : List Env), (∀ b ∈ frs l, b ∈ X.fs) → X.s_0.heap.FunFrames X.base l → s.heap.FunFrames X.base l := by
    intro l
    induction l with
    | nil => intro _ _; trivial
    | cons env r ih =>
      intro hs hl
      obtain ⟨hk, ⟨L, o, hf, hn, ho, hd⟩, hr⟩ := hl
      have hL : L ∈ X.fs := hs L (by unfold frs; rw [List.filterMap_cons, hf]; exact List.mem_cons_self)
      obtain ⟨sl, e⟩ := I.base.slot L o ho (I.ok.frf L hL) hL fun z => I.ok.exfs L z hL
      exact ⟨hk, ⟨L, _, hf, hn, e, hd⟩, ih (fun b hb => hs b (by unfold frs; rw [List.filterMap_cons, hf]; exact List.mem_cons_of_mem _ hb)) hr⟩
  exact all X.outer (fun _ hb => hb) I.ok.funs

/-- the frames that run, for a call -/
theorem Inv.stack (I : Inv X pins σ H s) : s.heap.FunFrames X.base X.stack := by
  rcases I.ok.stk with e | ⟨e, hf⟩
  · rw [e]; exact I.funs
  · rw [e]
    obtain ⟨m, hn, _⟩ := I.loc
    refine .cons (by rw [I.ok.kind]; decide) hf hn ?_ I.funs
    exact Heap.get?_none_of_le (Nat.le_trans I.ok.bsz I.ok.above)
theorem Inv.stkSub (I : Inv X pins σ H s) : ∀ b ∈ frs X.stack, b ∈ X.env.locals :: X.fs := fun b hb => by
  rcases I.ok.stk with e | ⟨e, hf⟩
  · rw [e] at hb; exact List.mem_cons_of_mem _ hb
  · rw [e] at hb
    unfold frs at hb
    rw [List.filterMap_cons, hf] at hb
    exact hb
theorem Inv.stkFree (I : Inv X pins σ H s) : ∀ b ∈ frs X.stack, H b = none := fun b hb => by
  rcases List.mem_cons.mp (I.stkSub b hb) with e | hb
  · rw [e]; exact I.free
  · obtain ⟨_, o, ho, _⟩ := I.ok.funs.mem hb
    exact I.base.free b o ho (I.ok.frf b hb) fun z => I.ok.exfs b z hb

/-- THE STEP: the untracked objects but the frame and the records at ch are kept (the callers' frames up to slots), the frame's map is kept, the new abstract heap is held -/
theorem Inv.step {g' : Array GenState} {t' : Nat} {d' : Drawn} {ch : List Addr} (I : Inv X pins σ H s)
    (hch : ∀ b ∈ ch, (b ∈ X.ex ∨ X.s_0.heap.objs.size ≤ b) ∧ b ≠ X.env.locals ∧ (∀ x c, X.env.cells.lookup x = some c → c ≠ b) ∧ ∀ p ∈ X.pn ++ pins, p.1 ≠ b)
    (keep : ∀ b o, b ≠ X.env.locals → b ∉ X.fs → b ∉ ch → s.heap.get? b = some o → H b = none → h'.get? b = some o)
    (slot : ∀ b o, b ≠ X.env.locals → b ∈ X.fs → b ∉ ch → s.heap.get? b = some o → H b = none → ∃ sl, h'.get? b = some { o with slots := sl }) (free : ∀ b o, b ∉ ch → s.heap.get? b = some o → H b = none → H' b = none)
    (there : ∀ b o, b ∉ ch → s.heap.get? b = some o → ∃ o', h'.get? b = some o')
    (tups : ∀ b xs, H b = some (.tup xs) → H' b = some (.tup xs)) (frzs : ∀ b o u, H b = some (.frz o u) → H' b = some (.frz o u)) (tbls : ∀ b ps, H b = some (.tbl ps) → ∃ more, H' b = some (.tbl (ps ++ more)))
    (ns : ∀ m, s.heap.Ns X.env.locals m → h'.Ns X.env.locals m) (hok : HOk X.prog X.w H' h') (hg : AllBare g') :
    Inv X pins σ H' { s with heap := h', gens := g', drawn := d', toks := t' } := by
  have neL : ∀ b o, X.s_0.heap.get? b = some o → b ≠ X.env.locals := fun b o e => Nat.ne_of_lt (Nat.lt_of_lt_of_le (Heap.lt_size e) I.ok.above)
  have neC : ∀ b o, X.s_0.heap.get? b = some o → b ∉ X.ex → b ∉ ch := fun b o e hx hb => by
    rcases (hch b hb).1 with z | z
    · exact hx z
    · exact absurd (Nat.lt_of_lt_of_le (Heap.lt_size e) z) (Nat.lt_irrefl _)
  have cellK : ∀ x c, X.env.cells.lookup x = some c → ∀ v, s.heap.IsCell c v → h'.IsCell c v := fun x c e v ⟨o, ho, hd⟩ => by
    have nch : c ∉ ch := fun z => (hch c z).2.2.1 x c e rfl
    by_cases hc : c ∈ X.fs
    · obtain ⟨sl, q⟩ := slot c o (I.cne x c e) hc nch ho (I.freeC x c e)
      exact ⟨_, q, hd⟩
    · exact ⟨o, keep c o (I.cne x c e) hc nch ho (I.freeC x c e), hd⟩
  refine ⟨I.ok, I.os, hg, ⟨fun b o e n hb hx => ?_, fun b o e n hb hx => ?_, fun b o e n hx => ?_, fun b o e hx => ?_, fun b xs e => tups b xs (I.base.tups b xs e), fun b o xs e => frzs b o xs (I.base.frzs b o xs e), fun b ps e => ?_⟩, ?_, fun x c e => ?_, ?_, fun x c e => ?_, fun p hp => ?_, hok, I.len⟩
  · exact keep b o (neL b o e) hb (neC b o e hx) (I.base.keep b o e n hb hx) (I.base.free b o e n hx)
  · obtain ⟨sl, e1⟩ := I.base.slot b o e n hb hx
    obtain ⟨sl', e2⟩ := slot b _ (neL b o e) hb (neC b o e hx) e1 (I.base.free b o e n hx)
    exact ⟨sl', e2⟩
  · obtain ⟨o', e1⟩ := I.base.there b o e hx
    exact free b o' (neC b o e hx) e1 (I.base.free b o e n hx)
  · obtain ⟨o', e1⟩ := I.base.there b o e hx
    exact there b o' (neC b o e hx) e1
  · obtain ⟨m1, e1⟩ := I.base.tbls b ps e
    obtain ⟨m2, e2⟩ := tbls b _ e1
    exact ⟨m1 ++ m2, by rw [e2, Array.append_assoc]⟩
  · obtain ⟨m, hn, hl⟩ := I.loc
    refine ⟨m, ns m hn, fun i x v e1 e2 e3 => ?_⟩
    obtain ⟨u, r, l⟩ := hl i x v e1 e2 e3
    refine ⟨u, r, ?_⟩
    rcases l with l | ⟨k, c, e, z⟩
    · exact .inl l
    · exact .inr ⟨k, c, e, cellK x c e _ z⟩
  · obtain ⟨v, z⟩ := I.cell x c e
    exact ⟨v, cellK x c e v z⟩
  · obtain ⟨m, ⟨o, _, _, ho, _⟩, _⟩ := I.loc
    exact free _ o (fun z => (hch _ z).2.1 rfl) ho I.free
  · obtain ⟨v, o, ho, hd⟩ := I.cell x c e
    exact free c o (fun z => (hch c z).2.2.1 x c e rfl) ho (I.freeC x c e)
  · obtain ⟨e, n, ne, nf, d⟩ := I.pin p hp
    have nch : p.1 ∉ ch := fun z => (hch p.1 z).2.2.2 p hp rfl
    exact ⟨keep p.1 p.2 ne nf nch e n, free p.1 p.2 nch e n, ne, nf, d⟩
/-- .. where the frame's own object is kept too -/
theorem Inv.un {t' : Nat} (I : Inv X pins σ H s) (u : Un X.fs [] H H' s.heap h') (hok : HOk X.prog X.w H' h') : Inv X pins σ H' { s with heap := h', toks := t' } := by
  obtain ⟨m, ⟨o, es, ep, ho, r⟩, _⟩ := id I.loc
  obtain ⟨sl, hL⟩ := u.any ho I.free (by simp)
  exact I.step (g' := s.gens) (d' := s.drawn) (ch := []) (fun _ z => nomatch z) (fun b o _ hb _ e n => u.keep b o e n hb (by simp)) (fun b o _ hb _ e n => u.slot b o e n hb (by simp)) (fun b o _ e n => u.free b o e n (by simp)) (fun b o _ e => u.there b o e (by simp)) u.tups u.frzs u.tbls (fun m' hm => by
    obtain ⟨o', es', ep', ho', r'⟩ := hm
    rw [ho] at ho'; cases ho'
    exact ⟨_, es', ep', hL, r'⟩) hok I.bare
/-- behind a call (or a comprehension's block): the slots of this frame may have changed too, the records at ch may have turned -/
theorem Inv.call {g' : Array GenState} {t' : Nat} {d' : Drawn} {ch : List Addr} (I : Inv X pins σ H s) (u : Un (frs X.stack) ch H H' s.heap h') (hok : HOk X.prog X.w H' h') (hg : AllBare g')
    (hch : ∀ b ∈ ch, (b ∈ X.ex ∨ X.s_0.heap.objs.size ≤ b) ∧ b ≠ X.env.locals ∧ (∀ x c, X.env.cells.lookup x = some c → c ≠ b) ∧ ∀ p ∈ X.pn ++ pins, p.1 ≠ b) :
    Inv X pins σ H' { s with heap := h', gens := g', drawn := d', toks := t' } := by
  obtain ⟨m, ⟨o, es, ep, ho, r⟩, _⟩ := id I.loc
  obtain ⟨sl, hL⟩ := u.any ho I.free fun z => (hch _ z).2.1 rfl
  exact I.step (ch := ch) hch (fun b o hL hb hc e n => u.keep b o e n (fun z => (List.mem_cons.mp (I.stkSub b z)).elim hL hb) hc) (fun b o _ _ hc e n => u.any e n hc) (fun b o hc e n => u.free b o e n hc) (fun b o hc e => u.there b o e hc) u.tups u.frzs u.tbls (fun m' hm => by
    obtain ⟨o', es', ep', ho', r'⟩ := hm
    rw [ho] at ho'; cases ho'
    exact ⟨_, es', ep', hL, r'⟩) hok hg
/-- an untracked record of ours (an iterator) has turned -/
theorem Inv.turned {t' : Nat} {it : Addr} (I : Inv X pins σ H s) (k : ∀ b o, b ≠ it → s.heap.get? b = some o → h'.get? b = some o) (hn : H it = none) (hL : it ≠ X.env.locals)
    (h1 : it ∈ X.ex ∨ X.s_0.heap.objs.size ≤ it) (h2 : ∀ x c, X.env.cells.lookup x = some c → c ≠ it) (h3 : ∀ p ∈ X.pn ++ pins, p.1 ≠ it) : Inv X pins σ H { s with heap := h', toks := t' } := by
  have nit : ∀ b u, H b = some u → b ≠ it := fun b u e z => by rw [z, hn] at e; cases e
  refine I.step (g' := s.gens) (d' := s.drawn) (ch := [it]) (fun b hb => ?_) (fun b o _ _ hc e _ => k b o (fun z => hc (by simp [z])) e) (fun b o _ _ hc e _ => ⟨o.slots, k b o (fun z => hc (by simp [z])) e⟩) (fun _ _ _ _ n => n)
    (fun b o hc e => ⟨o, k b o (fun z => hc (by simp [z])) e⟩) (fun _ _ e => e) (fun _ _ _ e => e) (fun b ps e => ⟨#[], by rw [e]; simp⟩) (fun m hm => ?_) (fun b u e => ?_) I.bare
  · have e : b = it := by simpa using hb
    subst e
    exact ⟨h1, hL, h2, h3⟩
  · obtain ⟨o, es, ep, ho, r⟩ := hm
    exact ⟨o, es, ep, k _ o (Ne.symm hL) ho, r⟩
  · refine (I.hok b u e).stay (fun c v hc q => k c v ?_ q) (fun _ q => q) fun _ _ q => q
    rcases hc with z | z
    · rw [z]; exact nit b u e
    · exact nit c _ z
theorem Inv.tok (I : Inv X pins σ H s) (t : Nat) : Inv X pins σ H { s with toks := t } := I.un (h' := s.heap) (t' := t) Un.refl I.hok
/-- all objects kept -/
theorem Inv.kept {t' : Nat} (I : Inv X pins σ H s) (k : ∀ b u, s.heap.get? b = some u → h'.get? b = some u) : Inv X pins σ H { s with heap := h', toks := t' } := I.un (Un.kept k) (I.hok.kept k)
/-- a new object laid and tracked -/
theorem Inv.laid {a : Addr} {o : HO} {t' : Nat} (I : Inv X pins σ H s) (k : ∀ b u, s.heap.get? b = some u → h'.get? b = some u) (hp : s.heap.objs.size ≤ a) (new : ObjOk X.prog X.w (upd H a o) h' a o) :
    Inv X pins σ (upd H a o) { s with heap := h', toks := t' } := I.un (Un.laid k hp (I.hok.fresh hp)) (I.hok.laid k hp new)
/-- an object written -/
theorem Inv.write {x e : Addr} {o : HO} {t' : Nat} (I : Inv X pins σ H s) (mu : Mut (H x)) (he : e = x ∨ H e = some (.own x)) (k : ∀ b u, b ≠ e → s.heap.get? b = some u → h'.get? b = some u) (heo : ∃ u, h'.get? e = some u)
    (new : ObjOk X.prog X.w (upd H x o) h' x o) : Inv X pins σ (upd H x o) { s with heap := h', toks := t' } := I.un (Un.write mu he k heo) (I.hok.write mu he k heo new)
/-- forgetting slots, pins -/
theorem Inv.weak {σ' : List (Option V)} (I : Inv X pins σ H s) (hl : σ'.length = σ.length) (w : ∀ (i : Nat) v, σ'[i]? = some (some v) → σ[i]? = some (some v)) : Inv X pins σ' H s :=
  ⟨I.ok, I.os, I.bare, I.base, let ⟨m, hn, hl'⟩ := I.loc; ⟨m, hn, fun i x v e1 e2 e3 => hl' i x v e1 (w i v e2) e3⟩, I.cell, I.free, I.freeC, I.pin, I.hok, hl.trans I.len⟩
theorem Inv.pins_of {pins' : List (Addr × Obj)} (I : Inv X pins σ H s) (h : ∀ p ∈ pins', s.heap.get? p.1 = some p.2 ∧ H p.1 = none ∧ p.1 ≠ X.env.locals ∧ p.1 ∉ X.fs ∧ ∀ v, p.2.data ≠ .cell v) : Inv X pins' σ H s :=
  ⟨I.ok, I.os, I.bare, I.base, I.loc, I.cell, I.free, I.freeC, fun p hp => (List.mem_append.mp hp).elim (fun z => I.pin p (List.mem_append_left _ z)) (h p), I.hok, I.len⟩

theorem nodup_ix {N : List Str} (hN : N.Nodup) {i j : Nat} {x : Str} (a : N[i]? = some x) (b : N[j]? = some x) : i = j := by
  obtain ⟨h1, e1⟩ := List.getElem?_eq_some_iff.mp a
  obtain ⟨h2, e2⟩ := List.getElem?_eq_some_iff.mp b
  exact (List.getElem_inj hN).mp (e1.trans e2.symm)

/-- a name is stored; what changed -/
theorem store_ok2 {M : Model} {A : Around} {E : Value → Shared → Prop} {i : Nat} {x : Str} {v : V} {u : Value} {Q : Unit → Shared → Prop} (I : Inv X pins σ H s) (hN : X.N.Nodup) (hi : X.N[i]? = some x) (hx : Loc X.env.scope x) (r : RelV v u)
    (h : ∀ s', Inv X pins (σ.set i (some v)) H s' → (∃ a, Heap.SameBut a s.heap s'.heap ∧ (a = X.env.locals ∨ X.env.cells.lookup x = some a)) → Q () s') (hf : X.fn x = true ∨ X.env.scope.names.lookup x = some .local := by first | exact .inl rfl | exact .inr rfl | assumption) : wpAny M A (storeName X.env x u) Q E s := by
  obtain ⟨m, hn, hl⟩ := id I.loc
  have hcls : (X.env.scope.kind == .class || (X.env.scope.kind == .module && X.env.locals != X.env.globals)) = false := by rw [I.ok.kind]; rfl
  have hiσ : i < σ.length := by rw [I.len]; exact (List.getElem?_eq_some_iff.mp hi).1
  have cne := I.cne
  have tracked : ∀ {a : Addr} {h' : Heap}, (∃ o, s.heap.get? a = some o ∧ H a = none) → Heap.SameBut a s.heap h' → HOk X.prog X.w H h' := fun {a h'} ha hs b ob e => by
    obtain ⟨_, _, hfree⟩ := ha
    refine (I.hok b ob e).stay (fun c w' hc q => (hs.2 c ?_).trans q) (fun _ q => q) fun _ _ q => q
    rintro rfl
    rcases hc with rfl | hc
    · rw [hfree] at e; cases e
    · rw [hfree] at hc; cases hc
  rcases hx with hk | hk
  · refine wpAny_storeName_local hk hn (fun h' hn' hs => ?_) hcls
    obtain ⟨oL, _, _, hoL, _⟩ := id hn
    refine h _ ⟨I.ok, I.os, I.bare, ⟨fun b o e n hb hx => ?_, fun b o e n hb hx => ?_, I.base.free, fun b o e hx => ?_, I.base.tups, I.base.frzs, I.base.tbls⟩, ⟨_, hn', fun j y v' e1 e2 e3 => ?_⟩, fun y c e => ?_, I.free, I.freeC, fun p hp => ?_, tracked ⟨oL, hoL, I.free⟩ hs, by simpa using I.len⟩ ⟨_, hs, .inl rfl⟩
    · exact (hs.2 b (Nat.ne_of_lt (Nat.lt_of_lt_of_le (Heap.lt_size e) I.ok.above))).trans (I.base.keep b o e n hb hx)
    · obtain ⟨sl, e1⟩ := I.base.slot b o e n hb hx
      exact ⟨sl, (hs.2 b (Nat.ne_of_lt (Nat.lt_of_lt_of_le (Heap.lt_size e) I.ok.above))).trans e1⟩
    · obtain ⟨o', e1⟩ := I.base.there b o e hx
      exact ⟨o', (hs.2 b (Nat.ne_of_lt (Nat.lt_of_lt_of_le (Heap.lt_size e) I.ok.above))).trans e1⟩
    · by_cases hj : j = i
      · subst hj
        rw [hi] at e1; cases e1
        rw [List.getElem?_set_self hiσ] at e2
        cases e2
        exact ⟨u, r, .inl ⟨hk, by simp⟩⟩
      · rw [List.getElem?_set_ne (Ne.symm hj)] at e2
        obtain ⟨u', r', q⟩ := hl j y v' e1 e2 e3
        refine ⟨u', r', ?_⟩
        rcases q with ⟨k, e⟩ | ⟨k, c, e, z⟩
        · refine .inl ⟨k, ?_⟩
          have : y ≠ x := fun e => hj (nodup_ix hN e1 (e ▸ hi))
          simp [this, e]
        · exact .inr ⟨k, c, e, z.sameBut hs (cne y c e)⟩
    · obtain ⟨w', z⟩ := I.cell y c e
      exact ⟨w', z.sameBut hs (cne y c e)⟩
    · obtain ⟨e, n, ne, nf, d⟩ := I.pin p hp
      exact ⟨(hs.2 p.1 ne).trans e, n, ne, nf, d⟩
  · have hfn : X.fn x = true := by
      rcases hf with z | z
      · exact z
      · rw [z] at hk; cases hk
    obtain ⟨c, hc⟩ := I.ok.has x (.inl hk)
    obtain ⟨w', z⟩ := I.cell x c hc
    refine wpAny_storeName_cell I.ok.kind hk hc z (fun h' hc' hs => ?_)
    obtain ⟨oc, hoc, hocd⟩ := id z
    refine h { s with heap := h' } ⟨I.ok, I.os, I.bare, ⟨fun b o e n hb hx => ?_, fun b o e n hb hx => ?_, I.base.free, fun b o e hx => ?_, I.base.tups, I.base.frzs, I.base.tbls⟩, ⟨m, hn.sameBut hs (Ne.symm (cne x c hc)), fun j y v' e1 e2 e3 => ?_⟩, fun y c' e => ?_, I.free, I.freeC, fun p hp => ?_, tracked ⟨oc, hoc, I.freeC x c hc⟩ hs, by simpa using I.len⟩ ⟨c, hs, .inr hc⟩
    · exact (hs.2 b (Nat.ne_of_lt (Nat.lt_of_lt_of_le (Heap.lt_size e) (I.ok.cab x c hfn hc)))).trans (I.base.keep b o e n hb hx)
    · obtain ⟨sl, e1⟩ := I.base.slot b o e n hb hx
      exact ⟨sl, (hs.2 b (Nat.ne_of_lt (Nat.lt_of_lt_of_le (Heap.lt_size e) (I.ok.cab x c hfn hc)))).trans e1⟩
    · obtain ⟨o', e1⟩ := I.base.there b o e hx
      exact ⟨o', (hs.2 b (Nat.ne_of_lt (Nat.lt_of_lt_of_le (Heap.lt_size e) (I.ok.cab x c hfn hc)))).trans e1⟩
    · by_cases hj : j = i
      · subst hj
        rw [hi] at e1; cases e1
        rw [List.getElem?_set_self hiσ] at e2
        cases e2
        exact ⟨u, r, .inr ⟨.inl hk, c, hc, hc'⟩⟩
      · rw [List.getElem?_set_ne (Ne.symm hj)] at e2
        obtain ⟨u', r', q⟩ := hl j y v' e1 e2 e3
        refine ⟨u', r', ?_⟩
        rcases q with q | ⟨k, c', e, z'⟩
        · exact .inl q
        · refine .inr ⟨k, c', e, z'.sameBut hs ?_⟩
          rintro rfl
          exact hj (nodup_ix hN e1 (I.ok.inj _ _ _ e hc ▸ hi))
    · by_cases hcc : c' = c
      · subst hcc; exact ⟨_, hc'⟩
      · obtain ⟨w2, z2⟩ := I.cell y c' e
        exact ⟨w2, z2.sameBut hs hcc⟩
    · obtain ⟨e, n, ne, nf, d⟩ := I.pin p hp
      refine ⟨(hs.2 p.1 ?_).trans e, n, ne, nf, d⟩
      intro q
      rw [q, hoc] at e
      have q' : oc = p.2 := Option.some.inj e
      exact d w' (by rw [← q']; exact hocd)
theorem store_ok {M : Model} {A : Around} {E : Value → Shared → Prop} {i : Nat} {x : Str} {v : V} {u : Value} {Q : Unit → Shared → Prop} (I : Inv X pins σ H s) (hN : X.N.Nodup) (hi : X.N[i]? = some x) (hx : Loc X.env.scope x) (r : RelV v u)
    (h : ∀ s', Inv X pins (σ.set i (some v)) H s' → Q () s') (hf : X.fn x = true ∨ X.env.scope.names.lookup x = some .local := by first | exact .inl rfl | exact .inr rfl | assumption) : wpAny M A (storeName X.env x u) Q E s :=
  store_ok2 I hN hi hx r (fun s' I' _ => h s' I') hf
/-- behind a call or a block, the state as it is -/
theorem Inv.call' {s' : Shared} {ch : List Addr} (I : Inv X pins σ H s) (ho : s'.os = s.os) (u : Un (frs X.stack) ch H H' s.heap s'.heap) (hok : HOk X.prog X.w H' s'.heap) (hg : AllBare s'.gens)
    (hch : ∀ b ∈ ch, (b ∈ X.ex ∨ X.s_0.heap.objs.size ≤ b) ∧ b ≠ X.env.locals ∧ (∀ x c, X.env.cells.lookup x = some c → c ≠ b) ∧ ∀ p ∈ X.pn ++ pins, p.1 ≠ b) : Inv X pins σ H' s' := by
  obtain ⟨h', g', d', t', o'⟩ := s'
  have e : o' = s.os := ho
  subst e
  exact I.call (g' := g') (t' := t') (d' := d') u hok hg hch
end

/-! ### the judgements -/
/-- an exception: its class, its own dict's address (where it has one), the abstract heap behind it -/
abbrev XK := Value → Option Addr → Hp → Prop
abbrev St := List (Option V)
abbrev VK := V → Hp → Prop
/-- an expression's reading; a test's; an argument list's -/
abbrev TE := St → Hp → VK → Prop
abbrev TT := St → Hp → (Bool → Hp → Prop) → Prop
abbrev TA := St → Hp → (List V → Hp → Prop) → Prop
/-- what is wanted behind a statement -/
structure Ends where
  nx : St → Hp → Prop
  rt : VK
  bk : St → Hp → Prop := fun _ _ => False
  ct : St → Hp → Prop := fun _ _ => False
abbrev TS := Ends → St → Hp → Prop

def EP (X : Cx) (pins : List (Addr × Obj)) (σ : St) (Q : VK) (u : Value) (s' : Shared) : Prop := ∃ v H', Inv X pins σ H' s' ∧ RelV v u ∧ Q v H'
def TP (X : Cx) (pins : List (Addr × Obj)) (σ : St) (Q : Bool → Hp → Prop) (b : Bool) (s' : Shared) : Prop := ∃ H', Inv X pins σ H' s' ∧ Q b H'
def AP (X : Cx) (pins : List (Addr × Obj)) (σ : St) (Q : List V → Hp → Prop) (us : List Value) (s' : Shared) : Prop := ∃ vs H', Inv X pins σ H' s' ∧ Vals vs us ∧ Q vs H'
def SP (X : Cx) (pins : List (Addr × Obj)) (D : Ends) (f : Flow) (s' : Shared) : Prop :=
  match f with
  | .next => ∃ σ' H', Inv X pins σ' H' s' ∧ D.nx σ' H'
  | .brk => ∃ σ' H', Inv X pins σ' H' s' ∧ D.bk σ' H'
  | .cont => ∃ σ' H', Inv X pins σ' H' s' ∧ D.ct σ' H'
  | .ret u => ∃ v σ' H', Inv X pins σ' H' s' ∧ RelV v u ∧ D.rt v H'

def PE (X : Cx) (e : Expr) (t : TE) : Prop :=
  ∀ (pins : List (Addr × Obj)) (s : Shared) (σ : St) (H : Hp) (Q : VK), Inv X pins σ H s → t σ H Q → wpAny (model X.prog X.w) X.A (eval e X.env) (EP X pins σ Q) X.xe s
def PT (X : Cx) (e : Expr) (t : TT) : Prop :=
  ∀ (pins : List (Addr × Obj)) (s : Shared) (σ : St) (H : Hp) (Q : Bool → Hp → Prop), Inv X pins σ H s → t σ H Q → wpAny (model X.prog X.w) X.A (isTrue e X.env (eval e X.env)) (TP X pins σ Q) X.xe s
/-- a test whatever its 'whole' is (and, or) -/
def PW (X : Cx) (e : Expr) (t : TT) : Prop :=
  ∀ (whole : Sem Value) (pins : List (Addr × Obj)) (s : Shared) (σ : St) (H : Hp) (Q : Bool → Hp → Prop), Inv X pins σ H s → t σ H Q → wpAny (model X.prog X.w) X.A (isTrue e X.env whole) (TP X pins σ Q) X.xe s
theorem PW.pt {X : Cx} {e : Expr} {t : TT} (h : PW X e t) : PT X e t := h _
/-- an argument list (no star), from the left -/
def PA (X : Cx) (es : List Expr) (t : TA) : Prop :=
  ∀ (pos : Pos) (pins : List (Addr × Obj)) (s : Shared) (σ : St) (H : Hp) (Q : List V → Hp → Prop), Inv X pins σ H s → t σ H Q → wpAny (model X.prog X.w) X.A (spliced (backTo pos (starEach es X.env))) (AP X pins σ Q) X.xe s
def PS (X : Cx) (st : Stmt) (t : TS) : Prop :=
  ∀ (pins : List (Addr × Obj)) (s : Shared) (σ : St) (H : Hp) (D : Ends), Inv X pins σ H s → t D σ H → wpAny (model X.prog X.w) X.A (exec st X.env) (SP X pins D) X.xe s
def PSs (X : Cx) (st : List Stmt) (t : TS) : Prop :=
  ∀ (pins : List (Addr × Obj)) (s : Shared) (σ : St) (H : Hp) (D : Ends), Inv X pins σ H s → t D σ H → wpAny (model X.prog X.w) X.A (execs st X.env) (SP X pins D) X.xe s
/-- weaken the end -/
theorem thn {α : Type} {t : Sem α} {Q Q' : α → Shared → Prop} {M : Model} {A : Around} {E : Value → Shared → Prop} {s : Shared} (h : wpAny M A t Q E s) (hQ : ∀ a s, Q a s → Q' a s) : wpAny M A t Q' E s := wpAny_mono h hQ fun _ _ x => x
end L2

namespace L2
open PySem PySem.Spec PyProof.Rows
section
variable {X : Cx}

/-! ### names and constants -/
def tVar (i : Nat) : TE := fun σ H Q => ∃ v, σ[i]? = some (some v) ∧ Q v H
def tC (v : V) : TE := fun _ H Q => Q v H
theorem pe_var {i : Nat} {x : Str} {pos : Pos} (hN : X.N[i]? = some x) (hv : Vis X.env.scope x) (hd : (x == ("__debug__" : Str)) = false := by decide) (hcd : (x == ("__classdict__" : Str)) = false := by decide) : PE X (.Name x pos) (tVar i) := by
  intro pins s σ H Q I h
  obtain ⟨v, e, h⟩ := h
  obtain ⟨m, hn, hl⟩ := I.loc
  obtain ⟨u, r, l⟩ := hl i x v hN e hv
  have fin : EP X pins σ Q u s := ⟨v, H, I, r, h⟩
  rcases l with ⟨hk, hm⟩ | ⟨hk, c, hc, hcell⟩
  · exact wpAny_Name (wpAny_loadName_local I.ok.kind hk hn hm fin) hd
  · rcases hk with hk | hk
    · exact wpAny_Name (wpAny_loadName_cell I.ok.kind hk hc hcell fin) hd
    · exact wpAny_Name (wpAny_loadName_free I.ok.kind hk hc hcell fin hcd) hd
theorem pe_int {i j pos} : PE X (.Constant (.int i) j pos) (tC (.int i)) := fun _ _ _ H _ I h => wpAny_Constant_int ⟨.int i, H, I.tok _, ⟨_, rfl⟩, h⟩
theorem pe_non {j pos} : PE X (.Constant .none j pos) (tC .non) := fun _ _ _ H _ I h => Constant_none ⟨.non, H, I, rfl, h⟩
theorem pe_str {x j pos} : PE X (.Constant (.str x) j pos) (tC (.str x)) := fun _ _ _ H _ I h => Calls.Constant_str ⟨.str x, H, I.tok _, ⟨_, rfl⟩, h⟩

/-- a global name of the def -/
def Gl (X : Cx) (x : Str) : Prop := X.env.kindOf x = some .globalImplicit
theorem ld_glob {E : Value → Shared → Prop} {pins : List (Addr × Obj)} {s : Shared} {σ : St} {H : Hp} {x : Str} {u : Value} {pos : Pos} {Q : Value → Shared → Prop} (I : Inv X pins σ H s) (hg : Gl X x) (hm : X.mg x = some u) (h : Q u s)
    (hd : (x == ("__debug__" : Str)) = false := by decide) : wpAny (model X.prog X.w) X.A (eval (.Name x pos) X.env) Q E s :=
  Calls.Name_function_global I.ok.kind hg (Calls.loadGlobal_global (by rw [I.ok.glob]; exact I.mod.glob.keeps I.bk) hm h) hd
theorem ld_blt {E : Value → Shared → Prop} {pins : List (Addr × Obj)} {s : Shared} {σ : St} {H : Hp} {x : Str} {u : Value} {pos : Pos} {Q : Value → Shared → Prop} (I : Inv X pins σ H s) (hg : Gl X x) (hm : X.mg x = none) (hv : bootBuiltins x = some u) (h : Q u s)
    (hn : x ≠ "__name__" := by decide) (hd : (x == ("__debug__" : Str)) = false := by decide) : wpAny (model X.prog X.w) X.A (eval (.Name x pos) X.env) Q E s := by
  obtain ⟨mb, h1, h2⟩ := I.mod.blt
  exact Calls.Name_function_global I.ok.kind hg (Calls.loadGlobal_builtin (by rw [I.ok.glob]; exact I.mod.glob.keeps I.bk) hm (by rw [I.ok.blt]; exact h1.keeps I.bk) ((h2 x hn).trans hv) h) hd
/-- a module's constant, a class, a function, as a value -/
theorem pe_glob {x : Str} {v : V} {u : Value} {pos : Pos} (hg : Gl X x) (hm : X.mg x = some u) (r : RelV v u) (hd : (x == ("__debug__" : Str)) = false := by decide) : PE X (.Name x pos) (tC v) :=
  fun _ _ _ H _ I h => ld_glob I hg hm ⟨v, H, I, r, h⟩ hd
/-! ### arithmetic -/
/-- two ints -/
def t2I (ta tb : TE) (k : Int → Int → Hp → Prop) : St → Hp → Prop := fun σ H => ta σ H fun x H1 => tb σ H1 fun y H2 => ∃ i j, x = .int i ∧ y = .int j ∧ k i j H2
def tAdd (ta tb : TE) : TE := fun σ H Q => t2I ta tb (fun i j H2 => Q (.int (i + j)) H2) σ H
def tSub (ta tb : TE) : TE := fun σ H Q => t2I ta tb (fun i j H2 => Q (.int (i - j)) H2) σ H
/-- the left factor below 2^64 -/
def tMul (ta tb : TE) : TE := fun σ H Q => t2I ta tb (fun i j H2 => (-(2 ^ 64) < i ∧ i < 2 ^ 64) ∧ Q (.int (i * j)) H2) σ H
variable {a b : Expr} {ta tb : TE} {pos : Pos}
/-! ### comparisons -/
def PC (X : Cx) (op : CmpOp) (a b : Expr) (t : TE) : Prop :=
  ∀ (pins : List (Addr × Obj)) (s : Shared) (σ : St) (H : Hp) (Q : VK), Inv X pins σ H s → t σ H Q →
    wpAny (model X.prog X.w) X.A (eval a X.env) (fun v s₁ => wpAny (model X.prog X.w) X.A (eval b X.env) (fun u s₂ => wpAny (model X.prog X.w) X.A (compareOp op v u) (EP X pins σ Q) X.xe s₂) X.xe s₁) X.xe s
theorem nobehind (b : Expr) {op : CmpOp} (h : op ≠ .In) (h2 : op ≠ .NotIn) : behindInMarks op b = false := by
  have e1 : (op == CmpOp.In) = false := by cases op <;> first | rfl | exact absurd rfl h
  have e2 : (op == CmpOp.NotIn) = false := by cases op <;> first | rfl | exact absurd rfl h2
  cases b <;> simp [behindInMarks, e1, e2]
def tCmp (p : Int → Int → Bool) (ta tb : TE) : TE := fun σ H Q => t2I ta tb (fun i j H2 => Q (.bl (p i j)) H2) σ H
abbrev tLt : TE → TE → TE := tCmp fun i j => decide (i < j)
abbrev tLe : TE → TE → TE := tCmp fun i j => decide (i ≤ j)
abbrev tGt : TE → TE → TE := tCmp fun i j => decide (j < i)
abbrev tGe : TE → TE → TE := tCmp fun i j => decide (j ≤ i)
abbrev tEqI : TE → TE → TE := tCmp fun i j => decide (i = j)
abbrev tNeI : TE → TE → TE := tCmp fun i j => !decide (i = j)
/-- is None -/
def tIsN (ta : TE) : TE := fun σ H Q => ta σ H fun x H1 => Q (.bl (decide (x = .non))) H1
def tNotN (ta : TE) : TE := fun σ H Q => ta σ H fun x H1 => Q (.bl (!decide (x = .non))) H1
theorem RelV.none_iff {x : V} {v : Value} (r : RelV x v) : (v == Value.none) = decide (x = .non) := by
  cases x with
  | non => cases r; rfl
  | bl _ => cases r; rfl
  | int _ => obtain ⟨t, rfl⟩ := r; rfl
  | str _ => obtain ⟨t, rfl⟩ := r; rfl
  | byt _ => obtain ⟨t, rfl⟩ := r; rfl
  | flt _ => obtain ⟨t, rfl⟩ := r; rfl
  | ref _ => cases r; rfl
  | ty _ => cases r; rfl
theorem pc_isN {j pos'} (ha : PE X a ta) : PC X .Is a (.Constant .none j pos') (tIsN ta) := by
  intro pins s σ H Q I h
  refine thn (ha pins s σ H _ I h) fun v s1 ⟨x, H1, I1, r1, q1⟩ => ?_
  exact Constant_none (is_none_gen ⟨.bl _, H1, I1, by rw [r1.none_iff]; rfl, q1⟩)
/-- a comparison as a value, as a test -/
def tB (t : TE) : TT := fun σ H Q => t σ H fun x H1 => ∃ c, x = .bl c ∧ Q c H1
theorem pt_cmp {op : CmpOp} {t : TE} (h : PC X op a b t) (h1 : behindInMarks op b = false := by first | exact nobehind _ (by decide) (by decide) | rfl) : PT X (.Compare a [op] [b] pos) (tB t) := by
  intro pins s σ H Q I hw
  refine wpAny_isTrue_Compare1 (thn (h pins s σ H _ I hw) fun v s1 h1 => thn h1 fun u s2 h2 => thn h2 fun c s3 ⟨x, H1, I1, r1, q1⟩ => ?_) h1
  obtain ⟨d, rfl, q⟩ := q1
  cases r1
  exact wpAny_truthy_bool ⟨H1, I1, q⟩
/-- an expression whose value is a bool, as a test -/
theorem pt_val {e : Expr} {t : TE} (h : PE X e t) (he : ∀ whole, isTrue e X.env whole = (do let v ← whole; standAt e.pos; holding [v] (truthy v)) := by intro _; rfl) : PT X e (tB t) := by
  intro pins s σ H Q I hw
  refine isTrue_plain (thn (h pins s σ H _ I hw) fun v s1 ⟨x, H1, I1, r1, q1⟩ => ?_) (he _)
  obtain ⟨d, rfl, q⟩ := q1
  cases r1
  exact wpAny_truthy_bool ⟨H1, I1, q⟩

/-! ### and, or, not -/
variable {tA tB' : TT} {rest : List Expr}
def tAnd (t u : TT) : TT := fun σ H Q => t σ H fun c H1 => if c = true then u σ H1 Q else Q false H1
def tOr (t u : TT) : TT := fun σ H Q => t σ H fun c H1 => if c = true then Q true H1 else u σ H1 Q
def tNot (t : TT) : TT := fun σ H Q => t σ H fun c H1 => Q (!c) H1
theorem pw_or1 (ha : PT X a tA) : PW X (.BoolOp .Or [a] pos) tA := by
  intro wh pins s σ H Q I h
  refine isTrue_or (thn (ha pins s σ H Q I h) fun c s1 e => ?_)
  cases c with
  | false => exact isTrue_or_nil e
  | true => exact e
theorem pw_or (ha : PT X a tA) (hb : PW X (.BoolOp .Or (b :: rest) pos) tB') : PW X (.BoolOp .Or (a :: b :: rest) pos) (tOr tA tB') := by
  intro wh pins s σ H Q I h
  refine isTrue_or (thn (ha pins s σ H _ I h) fun c s1 ⟨H1, I1, q1⟩ => ?_)
  cases c with
  | true => exact ⟨H1, I1, q1⟩
  | false => exact hb wh pins s1 σ H1 Q I1 q1
theorem pt_not (ha : PT X a tA) : PT X (.UnaryOp .Not a pos) (tNot tA) := by
  intro pins s σ H Q I h
  exact isTrue_not (ha pins s σ H (fun c H1 => Q (!c) H1) I h)
/-- .. as values (bools) -/
def tAndV (ta tb : TE) : TE := fun σ H Q => ta σ H fun x H1 => ∃ c, x = .bl c ∧ if c = true then tb σ H1 Q else Q (.bl false) H1
def tOrV (ta tb : TE) : TE := fun σ H Q => ta σ H fun x H1 => ∃ c, x = .bl c ∧ if c = true then Q (.bl true) H1 else tb σ H1 Q
def tNotV (ta : TE) : TE := fun σ H Q => ta σ H fun x H1 => ∃ c, x = .bl c ∧ Q (.bl (!c)) H1
theorem pe_one {op} {t : TE} (h : PE X a t) : PE X (.BoolOp op [a] pos) t := fun pins s σ H Q I hw => BoolOp_one (h pins s σ H Q I hw)
theorem pe_and (ha : PE X a ta) (hb : PE X (.BoolOp .And (b :: rest) pos) tb) : PE X (.BoolOp .And (a :: b :: rest) pos) (tAndV ta tb) := by
  intro pins s σ H Q I h
  refine BoolOp_and (thn (ha pins s σ H _ I h) fun v s1 ⟨x, H1, I1, r1, q1⟩ => ?_)
  obtain ⟨c, rfl, q1⟩ := q1
  cases r1
  refine wpAny_truthy_bool ?_
  cases c with
  | true => exact hb pins s1 σ H1 Q I1 q1
  | false => exact ⟨.bl false, H1, I1, rfl, q1⟩
theorem pe_or (ha : PE X a ta) (hb : PE X (.BoolOp .Or (b :: rest) pos) tb) : PE X (.BoolOp .Or (a :: b :: rest) pos) (tOrV ta tb) := by
  intro pins s σ H Q I h
  refine BoolOp_or (thn (ha pins s σ H _ I h) fun v s1 ⟨x, H1, I1, r1, q1⟩ => ?_)
  obtain ⟨c, rfl, q1⟩ := q1
  cases r1
  refine wpAny_truthy_bool ?_
  cases c with
  | false => exact hb pins s1 σ H1 Q I1 q1
  | true => exact ⟨.bl true, H1, I1, rfl, q1⟩
/-- a if t else b -/
def tIf (t : TT) (ta tb : TE) : TE := fun σ H Q => t σ H fun c H1 => if c = true then ta σ H1 Q else tb σ H1 Q
theorem pe_ifExp {c : Expr} (hc : PT X c tA) (ha : PE X a ta) (hb : PE X b tb) : PE X (.IfExp c a b pos) (tIf tA ta tb) := by
  intro pins s σ H Q I h
  refine wpAny_IfExp (thn (hc pins s σ H _ I h) fun d s1 ⟨H1, I1, q1⟩ => ?_)
  cases d with
  | true => exact ha pins s1 σ H1 Q I1 q1
  | false => exact hb pins s1 σ H1 Q I1 q1
end
end L2

namespace L2
open PySem PySem.Spec PyProof.Rows

/-! ### a list, a tuple that is read: tracked, frozen, or an object of the module -/
def SqL (K : PySem.W.Frag) (H : Hp) (a : Addr) (xs : List V) : Prop :=
  Rd H a (.lst xs) ∨
    ∃ (o : Obj) (its : Array Value) (n : Nat), K.lookup a = some o ∧ o.cls = .type "list" ∧ o.dict = none ∧ o.data = .seq its n ∧ its.size ≤ sizeLine ∧ Vals xs its.toList
def SqT (K : PySem.W.Frag) (H : Hp) (a : Addr) (xs : List V) : Prop :=
  Rd H a (.tup xs) ∨
    ∃ (o : Obj) (its : Array Value) (n : Nat), K.lookup a = some o ∧ o.cls = .type "tuple" ∧ o.data = .seq its n ∧ its.size ≤ sizeLine ∧ Vals xs its.toList
def absV : Value → Option V
  | .none => some .non
  | .bool b => some (.bl b)
  | .int i _ => some (.int i)
  | .str x _ => some (.str x)
  | .bytes b _ => some (.byt b)
  | .float b _ => some (.flt b)
  | .ref a => some (.ref a)
  | .type n => some (.ty n)
  | _ => none
theorem RelV.abs {x : V} {u : Value} (r : RelV x u) : absV u = some x := by
  cases x with
  | non => cases r; rfl
  | bl _ => cases r; rfl
  | int _ => obtain ⟨t, rfl⟩ := r; rfl
  | str _ => obtain ⟨t, rfl⟩ := r; rfl
  | byt _ => obtain ⟨t, rfl⟩ := r; rfl
  | flt _ => obtain ⟨t, rfl⟩ := r; rfl
  | ref _ => cases r; rfl
  | ty _ => cases r; rfl
theorem RelV.inj {x y : V} {u : Value} (r : RelV x u) (q : RelV y u) : x = y := Option.some.inj (r.abs.symm.trans q.abs)
theorem Vals.inj : ∀ {xs ys : List V} {us : List Value}, Vals xs us → Vals ys us → xs = ys
  | _, _, _, .nil, .nil => rfl
  | _, _, _, .cons r t, .cons r' t' => by rw [r.inj r', Vals.inj t t']
section
variable {X : Cx} {pins : List (Addr × Obj)} {σ : St} {H : Hp} {s : Shared} {a : Addr} {xs ys : List V}
theorem SqL.of {K : PySem.W.Frag} (h : H a = some (.lst xs)) : SqL K H a xs := .inl (.inl h)
theorem SqT.of {K : PySem.W.Frag} (h : H a = some (.tup xs)) : SqT K H a xs := .inl (.inl h)
theorem Inv.list (I : Inv X pins σ H s) (h : SqL X.K H a xs) : ∃ its : List Value, Vals xs its ∧ PlainL s.heap a its.toArray ∧ xs.length ≤ sizeLine := by
  rcases h with h | ⟨o, its, n, hk, hc, hd, hs, hz, r⟩
  · obtain ⟨z, its, n, r, e⟩ := h.ok I.hok
    exact ⟨its, r, ⟨_, n, e, rfl, rfl, rfl⟩, z⟩
  · refine ⟨its.toList, r, ⟨o, n, I.kIn a o hk, hc, hd, by simpa using hs⟩, ?_⟩
    have e := r.length
    simp only [Array.length_toList] at e
    omega
theorem Inv.tuple (I : Inv X pins σ H s) (h : SqT X.K H a xs) : ∃ its : List Value, Vals xs its ∧ IsTup s.heap a its.toArray ∧ xs.length ≤ sizeLine := by
  rcases h with h | ⟨o, its, n, hk, hc, hs, hz, r⟩
  · obtain ⟨z, its, r, p⟩ := h.ok I.hok
    exact ⟨its, r, p, z⟩
  · refine ⟨its.toList, r, ⟨o, I.kIn a o hk, hc, n, by simpa using hs⟩, ?_⟩
    have e := r.length
    simp only [Array.length_toList] at e
    omega
theorem Inv.list_inj (I : Inv X pins σ H s) (h : SqL X.K H a xs) (h' : SqL X.K H a ys) : xs = ys := by
  obtain ⟨its, r, ⟨o, n, e, _, _, d⟩, _⟩ := I.list h
  obtain ⟨its', r', ⟨o', n', e', _, _, d'⟩, _⟩ := I.list h'
  rw [e] at e'; cases e'
  rw [d] at d'
  injection d' with d1 _
  have : its = its' := by simpa using congrArg Array.toList d1
  subst this
  exact r.inj r'
theorem Inv.tuple_inj (I : Inv X pins σ H s) (h : SqT X.K H a xs) (h' : SqT X.K H a ys) : xs = ys := by
  obtain ⟨its, r, ⟨o, e, _, n, d⟩, _⟩ := I.tuple h
  obtain ⟨its', r', ⟨o', e', _, n', d'⟩, _⟩ := I.tuple h'
  rw [e] at e'; cases e'
  rw [d] at d'
  injection d' with d1 _
  have : its = its' := by simpa using congrArg Array.toList d1
  subst this
  exact r.inj r'
end

/-! ### another wish about exceptions -/
abbrev Cx.wish (X : Cx) (E : Value → Shared → Prop) : Cx := { X with xe := E }
/-- no exception leaves -/
abbrev Cx.nox (X : Cx) : Cx := X.wish fun _ _ => False
theorem Cx.Ok.wish {X : Cx} (ok : X.Ok) (E : Value → Shared → Prop) : (X.wish E).Ok :=
  ⟨ok.mod, ok.kind, ok.glob, ok.blt, ok.above, ok.inj, ok.has, ok.cab, ok.hd, ok.frames, ok.stk, ok.exf, ok.bs, ok.bsz, ok.noex, ok.exfs, ok.funs, ok.frf⟩
theorem Cx.Ok.unwish {X : Cx} {E : Value → Shared → Prop} (ok : (X.wish E).Ok) : X.Ok :=
  ⟨ok.mod, ok.kind, ok.glob, ok.blt, ok.above, ok.inj, ok.has, ok.cab, ok.hd, ok.frames, ok.stk, ok.exf, ok.bs, ok.bsz, ok.noex, ok.exfs, ok.funs, ok.frf⟩
section
variable {X : Cx} {pins : List (Addr × Obj)} {σ : St} {H : Hp} {s : Shared} {E : Value → Shared → Prop}
theorem Inv.wish (I : Inv X pins σ H s) (E : Value → Shared → Prop) : Inv (X.wish E) pins σ H s := ⟨I.ok.wish E, I.os, I.bare, I.base, I.loc, I.cell, I.free, I.freeC, I.pin, I.hok, I.len⟩
theorem Inv.unwish (I : Inv (X.wish E) pins σ H s) : Inv X pins σ H s := ⟨I.ok.unwish, I.os, I.bare, I.base, I.loc, I.cell, I.free, I.freeC, I.pin, I.hok, I.len⟩
theorem SP.unwish {D : Ends} {f : Flow} {s' : Shared} (h : SP (X.wish E) pins D f s') : SP X pins D f s' := by
  cases f with
  | next => obtain ⟨σ', H', I, q⟩ := h; exact ⟨σ', H', I.unwish, q⟩
  | brk => obtain ⟨σ', H', I, q⟩ := h; exact ⟨σ', H', I.unwish, q⟩
  | cont => obtain ⟨σ', H', I, q⟩ := h; exact ⟨σ', H', I.unwish, q⟩
  | ret u => obtain ⟨v, σ', H', I, r, q⟩ := h; exact ⟨v, σ', H', I.unwish, r, q⟩
theorem PSs.nox {st : List Stmt} {t : TS} (h : PSs X.nox st t) : PSs X st t := fun pins s σ H D I hw =>
  wpAny_mono (h pins s σ H D (I.wish _) hw) (fun _ _ q => q.unwish) fun _ _ z => False.elim z
end

/-! ### blocks and small statements -/
section
variable {X : Cx} {st : Stmt} {rest : List Stmt} {t u : TS} {e : Expr} {te : TE} {pos : Pos}
def tNext : TS := fun D σ H => D.nx σ H
def tSeq (t u : TS) : TS := fun D σ H => t { D with nx := u D } σ H
theorem pss_nil : PSs X [] tNext := fun _ _ σ H _ I h => wpAny_execs_nil ⟨σ, H, I, h⟩
theorem pss_cons (h1 : PS X st t) (h2 : PSs X rest u) : PSs X (st :: rest) (tSeq t u) := by
  intro pins s σ H D I h
  refine wpAny_execs_cons (thn (h1 pins s σ H { D with nx := u D } I h) fun f s1 q => ?_)
  cases f with
  | next =>
    obtain ⟨σ', H', I', q⟩ := q
    exact h2 pins s1 σ' H' D I' q
  | ret v => exact q
  | brk => exact q
  | cont => exact q
theorem pss_one (h1 : PS X st t) : PSs X [st] t := by
  intro pins s σ H D I h
  refine wpAny_execs_cons (thn (h1 pins s σ H D I h) fun f s1 q => ?_)
  cases f with
  | next => exact wpAny_execs_nil q
  | ret v => exact q
  | brk => exact q
  | cont => exact q
def tBreak : TS := fun D σ H => D.bk σ H
def tCont : TS := fun D σ H => D.ct σ H
/-- in a def's body nothing is shown -/
theorem Inv.quiet {pins : List (Addr × Obj)} {σ : St} {H : Hp} {s : Shared} (I : Inv X pins σ H s) : interactive X.env = false := by simp [interactive, I.ok.kind]
/-- an expression whose value is dropped -/
def tDrop (te : TE) : TS := fun D σ H => te σ H fun _ H1 => D.nx σ H1
theorem ps_expr (he : PE X e te) (hs : swapsWith e none pos.line X.env = pure false := by rfl) : PS X (.Expr e pos) (tDrop te) := by
  intro pins s σ H D I h
  exact wpAny_Expr_any (thn (he pins s σ H _ I h) fun v s1 ⟨x, H1, I1, r1, q1⟩ => ⟨σ, H1, I1, q1⟩) I.quiet hs
def tRet (te : TE) : TS := fun D σ H => te σ H D.rt
theorem ps_ret (he : PE X e te) : PS X (.Return (some e) pos) (tRet te) := by
  intro pins s σ H D I h
  exact wpAny_Return_some (thn (he pins s σ H _ I h) fun v s1 ⟨x, H1, I1, r1, q1⟩ => ⟨x, σ, H1, I1, r1, q1⟩)
def tRetN : TS := fun D _ H => D.rt .non H
def tIfS (c : TT) (t u : TS) : TS := fun D σ H => c σ H fun b H1 => if b = true then t D σ H1 else u D σ H1
theorem ps_if {c : Expr} {a b : List Stmt} {tc : TT} (hc : PT X c tc) (ha : PSs X a t) (hb : PSs X b u) : PS X (.If c a b pos) (tIfS tc t u) := by
  intro pins s σ H D I h
  refine wpAny_If (thn (hc pins s σ H _ I h) fun d s1 ⟨H1, I1, q1⟩ => ?_)
  cases d with
  | true => exact ha pins s1 σ H1 D I1 q1
  | false => exact hb pins s1 σ H1 D I1 q1
/-- code that the proof never comes to -/
def tNever : TS := fun _ _ _ => False
end

/-! ### targets -/
abbrev TG := V → St → Hp → (St → Hp → Prop) → Prop
abbrev TGs := List V → St → Hp → (St → Hp → Prop) → Prop
def PG (X : Cx) (target : Expr) (t : TG) : Prop :=
  ∀ (pins : List (Addr × Obj)) (s : Shared) (σ : St) (H : Hp) (v : V) (u : Value) (Q : St → Hp → Prop), Inv X pins σ H s → RelV v u → t v σ H Q →
    wpAny (model X.prog X.w) X.A (assign target X.env u) (fun _ s' => ∃ σ' H', Inv X pins σ' H' s' ∧ Q σ' H') X.xe s
/-- several targets, one after another -/
def PGs (X : Cx) (ts : List Expr) (t : TGs) : Prop :=
  ∀ (pins : List (Addr × Obj)) (s : Shared) (σ : St) (H : Hp) (vs : List V) (us : List Value) (Q : St → Hp → Prop), Inv X pins σ H s → Vals vs us → t vs σ H Q →
    wpAny (model X.prog X.w) X.A (assignInOrder ((assignEach ts X.env).map (·.2)) us) (fun _ s' => ∃ σ' H', Inv X pins σ' H' s' ∧ Q σ' H') X.xe s
/-- o[i] = v, by values -/
abbrev TSet := V → V → V → Hp → (Hp → Prop) → Prop
def PSet (X : Cx) (t : TSet) : Prop :=
  ∀ (pins : List (Addr × Obj)) (s : Shared) (σ : St) (H : Hp) (o i v : V) (ov iv u : Value) (Q : Hp → Prop), Inv X pins σ H s → RelV o ov → RelV i iv → RelV v u → t o i v H Q →
    wpAny (model X.prog X.w) X.A (setItem ov iv u) (fun _ s' => ∃ H', Inv X pins σ H' s' ∧ Q H') X.xe s
/-- a op= b, by values -/
abbrev TIp := V → V → Hp → VK → Prop
def PIp (X : Cx) (op : Operator) (t : TIp) : Prop :=
  ∀ (pins : List (Addr × Obj)) (s : Shared) (σ : St) (H : Hp) (x y : V) (v u : Value) (Q : VK), Inv X pins σ H s → RelV x v → RelV y u → t x y H Q →
    wpAny (model X.prog X.w) X.A (inplaceOp op v u) (EP X pins σ Q) X.xe s
section
variable {X : Cx} {pos : Pos}
def gName (i : Nat) : TG := fun v σ H Q => Q (σ.set i (some v)) H
theorem pg_name {i : Nat} {x : Str} (hN : X.N.Nodup) (hi : X.N[i]? = some x) (hx : Loc X.env.scope x) (hf : X.fn x = true ∨ X.env.scope.names.lookup x = some .local := by first | exact .inl rfl | exact .inr rfl | assumption) : PG X (.Name x pos) (gName i) := by
  intro pins s σ H v u Q I r h
  exact wpAny_assign_Name (store_ok I hN hi hx r (fun s' I' => ⟨_, H, I', h⟩) hf)
def gNil : TGs := fun vs σ H Q => vs = [] ∧ Q σ H
def gCons (t : TG) (u : TGs) : TGs := fun vs σ H Q => ∃ v r, vs = v :: r ∧ t v σ H fun σ' H' => u r σ' H' Q
theorem pgs_nil : PGs X [] gNil := by
  intro pins s σ H vs us Q I r h
  obtain ⟨e, h⟩ := h
  subst e
  cases r
  exact assignInOrder_nil ⟨σ, H, I, h⟩
theorem pgs_cons {e : Expr} {es : List Expr} {t : TG} {u : TGs} (h1 : PG X e t) (h2 : PGs X es u)
    (hs : (assignEach (e :: es) X.env).map (·.2) = assign e X.env :: (assignEach es X.env).map (·.2) := by rfl) : PGs X (e :: es) (gCons t u) := by
  intro pins s σ H vs us Q I r h
  obtain ⟨v, vr, e1, h⟩ := h
  subst e1
  cases r with
  | cons r rr =>
    rw [hs]
    refine assignInOrder_cons (thn (h1 pins s σ H _ _ _ I r h) fun _ s1 ⟨σ1, H1, I1, q1⟩ => ?_)
    exact h2 pins s1 σ1 H1 _ _ Q I1 rr q1
/-- (a, b, ..) = a tuple of that length -/
def gTup (K : PySem.W.Frag) (n : Nat) (t : TGs) : TG := fun v σ H Q => ∃ a xs, v = .ref a ∧ SqT K H a xs ∧ xs.length = n ∧ t xs σ H Q
theorem pg_tup {es : List Expr} {k : Nat} {t : TGs} {n : Nat} (hc : X.calm = true) (h : PGs X es t)
    (hn : (assignEach es X.env).length = n := by rfl) (hst : (assignEach es X.env).findIdx? (·.1) = none := by rfl) : PG X (.Tuple es k pos) (gTup X.K n t) := by
  intro pins s σ H v u Q I r hw
  obtain ⟨a, xs, e1, hq, hl, hw⟩ := hw
  subst e1
  cases r
  obtain ⟨its, rv, ht, hz⟩ := I.tuple hq
  refine assign_Tuple_tuple (I.ok.hd hc) ht (by simp [hn, ← hl, rv.length]) hst fun h' hx => ?_
  have I1 : Inv X pins σ H { s with heap := h' } := I.kept (t' := s.toks) fun b o e => hx b o (Nat.ne_of_lt (Heap.lt_size e)) e
  exact h pins _ σ H xs _ Q I1 (by simpa using rv) hw
/-- o[i] = .. -/
def gSub (to ti : TE) (t : TSet) : TG := fun v σ H Q => to σ H fun o H1 => ti σ H1 fun i H2 => t o i v H2 fun H3 => Q σ H3
/-- target = value -/
def tAsg (te : TE) (g : TG) : TS := fun D σ H => te σ H fun x H1 => g x σ H1 D.nx
/-- name = value -/
theorem ps_set {i : Nat} {x : Str} {e : Expr} {te : TE} {pos' : Pos} (hN : X.N.Nodup) (hi : X.N[i]? = some x) (hx : Loc X.env.scope x) (he : PE X e te) (hs : swapsWith e (some (.Name x pos')) pos.line X.env = pure false := by rfl) (hf : X.fn x = true ∨ X.env.scope.names.lookup x = some .local := by first | exact .inl rfl | exact .inr rfl | assumption) :
    PS X (.Assign [.Name x pos'] e pos) (tAsg te (gName i)) := by
  intro pins s σ H D I h
  refine wpAny_Assign_Name (thn (he pins s σ H _ I h) fun v s1 ⟨y, H1, I1, r1, q1⟩ => ?_) hs
  exact store_ok I1 hN hi hx r1 (fun s2 I2 => ⟨_, H1, I2, q1⟩) hf
/-- a, b = x, y with plain local names: stored from the right; the pair itself is not tracked (the opening rows as in PyProof/Rows/TupAssign.lean:23) -/
def tPar (i j : Nat) (ta : TA) : TS := fun D σ H => ta σ H fun vs H1 => ∃ v w, vs = [v, w] ∧ D.nx ((σ.set i (some v)).set j (some w)) H1
/-- name op= e -/
def tAug (i : Nat) (te : TE) (ti : TIp) : TS := fun D σ H => ∃ x, σ[i]? = some (some x) ∧ te σ H fun y H1 => ti x y H1 fun z H2 => D.nx (σ.set i (some z)) H2
/-- o[i] op= e -/
def tAugS (to ti te : TE) (tget : V → V → Hp → VK → Prop) (tip : TIp) (tset : TSet) : TS := fun D σ H => to σ H fun o H1 => ti σ H1 fun i H2 => tget o i H2 fun x H3 => te σ H3 fun y H4 => tip x y H4 fun z H5 => tset o i z H5 fun H6 => D.nx σ H6
/-- o[i], by values -/
def PGet (X : Cx) (t : V → V → Hp → VK → Prop) : Prop :=
  ∀ (pins : List (Addr × Obj)) (s : Shared) (σ : St) (H : Hp) (o i : V) (ov iv : Value) (Q : VK), Inv X pins σ H s → RelV o ov → RelV i iv → t o i H Q →
    wpAny (model X.prog X.w) X.A (getItem ov iv) (EP X pins σ Q) X.xe s
/-- ints -/
def ipI (f : Int → Int → Int) : TIp := fun x y H Q => ∃ i j, x = .int i ∧ y = .int j ∧ Q (.int (f i j)) H
end

/-! ### while -/
section
variable {X : Cx} {pos : Pos}
/-- the invariant W with its measure -/
def tWhile (c : TT) (tb : TS) : TS := fun D σ H => ∃ W : Nat → St → Hp → Prop, (∃ m, W m σ H) ∧ ∀ m σ H, W m σ H →
  c σ H fun b H1 => if b = true then ∃ N : St → Hp → Prop, (∀ σ' H', N σ' H' → ∃ m', m' < m ∧ W m' σ' H') ∧ tb { D with nx := N, ct := N, bk := D.nx } σ H1 else D.nx σ H1
end

/-! ### what a loop or a comprehension walks -/
/-- at turn i: it yields x (the heap may grow), or it stops -/
structure It where
  go : Nat → Hp → Prop
  yld : Nat → Hp → V → Hp → Prop
  stop : Nat → Hp → Prop
/-- the iterator's own objects may turn: they are not the frame's, not pinned, younger than the entry (or a comprehension's own) -/
def FpOk (X : Cx) (pins : List (Addr × Obj)) (H : Hp) (b : Addr) : Prop :=
  H b = none ∧ b ≠ X.env.locals ∧ b ∉ X.fs ∧ (b ∈ X.ex ∨ X.s_0.heap.objs.size ≤ b) ∧ (∀ x c, X.env.cells.lookup x = some c → c ≠ b) ∧ ∀ p ∈ X.pn ++ pins, p.1 ≠ b
theorem Inv.fpOk {X : Cx} {pins : List (Addr × Obj)} {σ : St} {H H' : Hp} {s : Shared} {b : Addr} (I : Inv X pins σ H s) (hb : s.heap.objs.size ≤ b) (hn : H' b = none) : FpOk X pins H' b := by
  refine ⟨hn, Nat.ne_of_gt (Nat.lt_of_lt_of_le I.lt hb), I.nofs hb, .inr (Nat.le_trans I.sz hb), fun x c e z => ?_, fun p hp z => ?_⟩
  · obtain ⟨v, q⟩ := I.cell x c e
    exact absurd (Nat.lt_of_lt_of_le q.lt (by rw [z]; exact hb)) (Nat.lt_irrefl _)
  · exact absurd (Nat.lt_of_lt_of_le (Heap.lt_size (I.pin p hp).1) (by rw [z]; exact hb)) (Nat.lt_irrefl _)
structure Turn (P : Program) (w : World) (K : PySem.W.Frag) (tg : Expr) (J : It) (fp : List Addr) (it : Addr) (tn : Nat → Heap → Prop) : Prop where
  mem : it ∈ fp
  obj : ∀ i h, tn i h → ∀ b ∈ fp, ∃ o, h.get? b = some o ∧ ∀ v, o.data ≠ .cell v
  keep : ∀ i h h', tn i h → (∀ b ∈ fp, ∀ o, h.get? b = some o → h'.get? b = some o) → tn i h'
  item : ∀ (X : Cx), X.prog = P → X.w = w → X.K = K → X.calm = true → ∀ (i : Nat) (pins : List (Addr × Obj)) (s : Shared) (σ : St) (H : Hp) (E : Value → Shared → Prop), Inv X pins σ H s → (∀ b ∈ fp, FpOk X pins H b) → tn i s.heap → J.go i H →
    wpAny (model P w) X.A (pyNext (.ref it)) (fun r s1 => ∃ u, r = some u ∧
      wpAny (model P w) X.A (letOwnedTupleGo tg (.ref it) u) (fun _ s2 => ∃ x H', Inv X pins σ H' s2 ∧ RelV x u ∧ J.yld i H x H' ∧ tn (i + 1) s2.heap ∧ ∀ b ∈ fp, H' b = none) E s1) E s
  done : ∀ (X : Cx), X.prog = P → X.w = w → X.K = K → X.calm = true → ∀ (i : Nat) (pins : List (Addr × Obj)) (s : Shared) (σ : St) (H : Hp) (E : Value → Shared → Prop), Inv X pins σ H s → (∀ b ∈ fp, FpOk X pins H b) → tn i s.heap → J.stop i H →
    wpAny (model P w) X.A (pyNext (.ref it)) (fun r s1 => r = none ∧ Inv X pins σ H s1) E s
  self : ∀ (A : Around) (i : Nat) (s : Shared) (Q : Value → Shared → Prop) (E : Value → Shared → Prop), tn i s.heap → Q (.ref it) s → wpAny (model P w) A (pyIter (.ref it)) Q E s
abbrev TI := St → Hp → (It → Hp → Prop) → Prop
/-- an iterator has come -/
def PIE (X : Cx) (pins : List (Addr × Obj)) (σ : St) (tg : Expr) (R : It → Hp → Prop) (itv : Value) (s2 : Shared) : Prop :=
  ∃ (it : Addr) (fp : List Addr) (tn : Nat → Heap → Prop) (J : It) (H' : Hp), itv = .ref it ∧ Inv X pins σ H' s2 ∧ Turn X.prog X.w X.K tg J fp it tn ∧ tn 0 s2.heap ∧ (∀ b ∈ fp, FpOk X pins H' b) ∧ R J H'
def PI (X : Cx) (tg iter : Expr) (wi : TI) : Prop :=
  ∀ (pins : List (Addr × Obj)) (s : Shared) (σ : St) (H : Hp) (R : It → Hp → Prop), Inv X pins σ H s → wi σ H R →
    wpAny (model X.prog X.w) X.A (eval iter X.env) (fun v s1 => wpAny (model X.prog X.w) X.A (pyIter v) (PIE X pins σ tg R) X.xe s1) X.xe s

/-- the step ahead of the store is nothing for an iterator that keeps no tuple -/
theorem go_of {M : Model} {A : Around} {E : Value → Shared → Prop} {s : Shared} {tg : Expr} {it : Addr} {u : Value} {o : Obj} {n : String} {vs : Array Value} {Q : Unit → Shared → Prop} (ho : s.heap.get? it = some o) (hc : o.cls = .type n) (hd : o.data = .fields vs)
    (hn : ["enumerate", "zip", "dict_itemiterator", "dict_reverseitemiterator", "odict_iterator", "itertools.zip_longest", "itertools.pairwise"].contains n = false) (hQ : Q () s) : wpAny M A (letOwnedTupleGo tg (.ref it) u) Q E s := by
  unfold letOwnedTupleGo
  cases tg <;> first
    | exact wpAny_pure hQ
    | (cases u <;> first
        | exact wpAny_pure hQ
        | (refine wpAny_bind (wpAny_load ho ?_)
           rw [hc, hd]
           show wpAny M A (if (["enumerate", "zip", "dict_itemiterator", "dict_reverseitemiterator", "odict_iterator", "itertools.zip_longest", "itertools.pairwise"].contains n && vs[0]? == some (rawInt _)) = true then _ else _) Q E s
           rw [if_neg (by intro h; rw [hn, Bool.false_and] at h; cases h)]
           exact wpAny_pure hQ))

/-- the list at a, as it stands at each turn (a loop may append to it) -/
def Itl (K : PySem.W.Frag) (a : Addr) : It :=
  ⟨fun i H => ∃ xs x, SqL K H a xs ∧ xs[i]? = some x, fun i H x H' => H' = H ∧ ∀ xs, SqL K H a xs → xs[i]? = some x, fun i H => ∃ xs, SqL K H a xs ∧ xs.length ≤ i⟩
def Itt (K : PySem.W.Frag) (a : Addr) : It :=
  ⟨fun i H => ∃ xs x, SqT K H a xs ∧ xs[i]? = some x, fun i H x H' => H' = H ∧ ∀ xs, SqT K H a xs → xs[i]? = some x, fun i H => ∃ xs, SqT K H a xs ∧ xs.length ≤ i⟩
/-- lo, lo + 1, .. (n of them) -/
def Itr (lo : Int) (n : Nat) : It := ⟨fun i _ => i < n, fun i H x H' => H' = H ∧ x = .int (lo + i), fun i _ => n ≤ i⟩
theorem turn_list {P : Program} {w : World} {K : PySem.W.Frag} {tg : Expr} (a it : Addr) : Turn P w K tg (Itl K a) [it] it (fun i h => h.IsListIter it a i) where
  mem := by simp
  obj := fun i h st b hb => by
    have e : b = it := by simpa using hb
    subst e
    obtain ⟨o, e, c, d⟩ := st
    exact ⟨o, e, fun v z => by rw [d] at z; cases z⟩
  keep := fun i h h' st k => st.at fun o e => k it (by simp) o e
  item := by
    intro X hP hw hK hc i pins s σ H E I hf st hg
    subst hP hw hK
    obtain ⟨xs, x, hq, hx⟩ := hg
    obtain ⟨its, rv, p, hz⟩ := I.list hq
    obtain ⟨u, hu, ru⟩ := rv.get hx
    obtain ⟨f0, f1, f2, f3, f4, f5⟩ := hf it (by simp)
    refine wpAny_pyNext_list_item st p.isList (x := u) (by simpa using hu) fun h' st' sb => ?_
    have I1 : Inv X pins σ H { s with heap := h' } := I.turned (t' := s.toks) (fun b o hb e => (sb.2 b hb).trans e) f0 f1 f3 f4 f5
    obtain ⟨o, e, c, d⟩ := id st'
    exact ⟨u, rfl, go_of (s := { s with heap := h' }) e c d (by decide) ⟨x, H, I1, ru, ⟨rfl, fun ys hy => by rw [I.list_inj hy hq]; exact hx⟩, st', fun b hb => (hf b hb).1⟩⟩
  done := by
    intro X hP hw hK hc i pins s σ H E I hf st hg
    subst hP hw hK
    obtain ⟨xs, hq, hx⟩ := hg
    obtain ⟨its, rv, p, hz⟩ := I.list hq
    obtain ⟨f0, f1, f2, f3, f4, f5⟩ := hf it (by simp)
    have hl := rv.length
    exact wpAny_pyNext_list_end (I.ok.hd hc) st p.isList (by simp; omega) fun h' eb => ⟨rfl, I.turned (t' := s.toks) (fun b o hb e => eb b o hb e) f0 f1 f3 f4 f5⟩
  self := fun _ _ _ _ _ st h => wpAny_pyIter_listiter st h
theorem turn_tuple {P : Program} {w : World} {K : PySem.W.Frag} {tg : Expr} (a it : Addr) : Turn P w K tg (Itt K a) [it] it (fun i h => h.IsTupleIter it a i) where
  mem := by simp
  obj := fun i h st b hb => by
    have e : b = it := by simpa using hb
    subst e
    obtain ⟨o, e, c, d⟩ := st
    exact ⟨o, e, fun v z => by rw [d] at z; cases z⟩
  keep := fun i h h' st k => st.at fun o e => k it (by simp) o e
  item := by
    intro X hP hw hK hc i pins s σ H E I hf st hg
    subst hP hw hK
    obtain ⟨xs, x, hq, hx⟩ := hg
    obtain ⟨its, rv, p, hz⟩ := I.tuple hq
    obtain ⟨u, hu, ru⟩ := rv.get hx
    obtain ⟨f0, f1, f2, f3, f4, f5⟩ := hf it (by simp)
    refine wpAny_pyNext_tuple_item st (show s.heap.IsTuple a its.toArray from p) (x := u) (by simpa using hu) fun h' st' sb => ?_
    have I1 : Inv X pins σ H { s with heap := h' } := I.turned (t' := s.toks) (fun b o hb e => (sb.2 b hb).trans e) f0 f1 f3 f4 f5
    obtain ⟨o, e, c, d⟩ := id st'
    exact ⟨u, rfl, go_of (s := { s with heap := h' }) e c d (by decide) ⟨x, H, I1, ru, ⟨rfl, fun ys hy => by rw [I.tuple_inj hy hq]; exact hx⟩, st', fun b hb => (hf b hb).1⟩⟩
  done := by
    intro X hP hw hK hc i pins s σ H E I hf st hg
    subst hP hw hK
    obtain ⟨xs, hq, hx⟩ := hg
    obtain ⟨its, rv, p, hz⟩ := I.tuple hq
    obtain ⟨f0, f1, f2, f3, f4, f5⟩ := hf it (by simp)
    have hl := rv.length
    exact wpAny_pyNext_tuple_end (I.ok.hd hc) st (show s.heap.IsTuple a its.toArray from p) (by simp; omega) fun h' eb => ⟨rfl, I.turned (t' := s.toks) (fun b o hb e => eb b o hb e) f0 f1 f3 f4 f5⟩
  self := fun _ _ _ _ _ st h => wpAny_pyIter_tupleiter st h
theorem turn_range {P : Program} {w : World} {K : PySem.W.Frag} {tg : Expr} (it : Addr) (lo : Int) (n : Nat) : Turn P w K tg (Itr lo n) [it] it (fun i h => IsRangeIter h it (lo + (i : Nat) * 1) ((n : Int) - (i : Nat)) 1) where
  mem := by simp
  obj := fun i h st b hb => by
    have e : b = it := by simpa using hb
    subst e
    exact ⟨_, st, fun v z => by
      have z' : Data.fields _ = Data.cell v := z
      cases z'⟩
  keep := fun i h h' st k => k it (by simp) _ st
  item := by
    intro X hP hw hK hc i pins s σ H E I hf st hg
    subst hP hw hK
    obtain ⟨f0, f1, f2, f3, f4, f5⟩ := hf it (by simp)
    have W := Walks.range (prog := X.prog) (w := X.w) (I.ok.hd hc) it lo 1 n
    refine W.item i s _ _ hg st fun v h' tk hv st' kk => ?_
    obtain ⟨t, rfl⟩ := hv
    have I1 : Inv X pins σ H { s with heap := h', toks := tk } := I.turned (fun b o hb e => kk b o (by simpa using hb) e) f0 f1 f3 f4 f5
    refine ⟨_, rfl, go_of (s := { s with heap := h', toks := tk }) (n := "range_iterator") st' rfl rfl (by decide) ⟨.int (lo + i), H, I1, ⟨t, ?_⟩, ⟨rfl, rfl⟩, st', fun b hb => (hf b hb).1⟩⟩
    rw [Int.mul_one]
  done := by
    intro X hP hw hK hc i pins s σ H E I hf st hg
    subst hP hw hK
    obtain ⟨f0, f1, f2, f3, f4, f5⟩ := hf it (by simp)
    exact wpAny_pyNext_range_end (I.ok.hd hc) st (by have : n ≤ i := hg; omega) fun h' eb => ⟨rfl, I.turned (t' := s.toks) (fun b o hb e => eb b o hb e) f0 f1 f3 f4 f5⟩
  self := fun _ _ _ _ _ st h => wpAny_pyIter_rangeiter st h
end L2

namespace L2
open PySem PySem.Spec PyProof.Rows
section
variable {X : Cx} {tg : Expr}
def iList (K : PySem.W.Frag) (tl : TE) : TI := fun σ H R => tl σ H fun x H1 => ∃ a, x = .ref a ∧ (∃ xs, SqL K H1 a xs) ∧ R (Itl K a) H1
def iTup (K : PySem.W.Frag) (tl : TE) : TI := fun σ H R => tl σ H fun x H1 => ∃ a, x = .ref a ∧ (∃ xs, SqT K H1 a xs) ∧ R (Itt K a) H1
theorem pi_list {l : Expr} {tl : TE} (hl : PE X l tl) : PI X tg l (iList X.K tl) := by
  intro pins s σ H R I h
  refine thn (hl pins s σ H _ I h) fun v s1 ⟨x, H1, I1, r1, q1⟩ => ?_
  obtain ⟨a, e, ⟨xs, hq⟩, q⟩ := q1
  subst e
  cases r1
  obtain ⟨its, rv, p, hz⟩ := I1.list hq
  refine wpAny_pyIter_list p.isList ?_
  refine ⟨s1.heap.objs.size, [s1.heap.objs.size], _, _, H1, rfl, I1.kept (t' := s1.toks) fun b o e => Heap.get?_push_of_some _ e, turn_list a _, ⟨_, Heap.get?_push_size _ rfl, rfl, rfl⟩, fun b hb => ?_, q⟩
  have e : b = s1.heap.objs.size := by simpa using hb
  subst e
  exact I1.fpOk (Nat.le_refl _) (I1.hok.fresh (Nat.le_refl _))
theorem pi_tup {l : Expr} {tl : TE} (hl : PE X l tl) : PI X tg l (iTup X.K tl) := by
  intro pins s σ H R I h
  refine thn (hl pins s σ H _ I h) fun v s1 ⟨x, H1, I1, r1, q1⟩ => ?_
  obtain ⟨a, e, ⟨xs, hq⟩, q⟩ := q1
  subst e
  cases r1
  obtain ⟨its, rv, p, hz⟩ := I1.tuple hq
  refine wpAny_pyIter_tuple (show s1.heap.IsTuple a its.toArray from p) ?_
  refine ⟨s1.heap.objs.size, [s1.heap.objs.size], _, _, H1, rfl, I1.kept (t' := s1.toks) fun b o e => Heap.get?_push_of_some _ e, turn_tuple a _, ⟨_, Heap.get?_push_size _ rfl, rfl, rfl⟩, fun b hb => ?_, q⟩
  have e : b = s1.heap.objs.size := by simpa using hb
  subst e
  exact I1.fpOk (Nat.le_refl _) (I1.hok.fresh (Nat.le_refl _))
/-- a range object just made, walked -/
theorem range_it {pins : List (Addr × Obj)} {σ : St} {H : Hp} {s : Shared} {R : It → Hp → Prop} {E : Value → Shared → Prop} {lo hi : Int} {t u v : Tok} {tk : Nat} (I : Inv X pins σ H s) (h1 : -(2 ^ 62) ≤ lo) (h2 : lo < 2 ^ 62) (h3 : -(2 ^ 62) ≤ hi) (h4 : hi < 2 ^ 62)
    (q : R (Itr lo (hi - lo).toNat) H) : wpAny (model X.prog X.w) X.A (pyIter (.ref s.heap.objs.size)) (PIE X pins σ tg R) E { s with heap := s.heap.push { cls := .type "range", data := .fields #[.int lo t, .int hi u, .int 1 v] }, toks := tk } := by
  refine wpAny_pyIter_range (IsRange.new ..) (small_one h1 h2 h3 h4) ?_
  have I1 : Inv X pins σ H { s with heap := s.heap.push { cls := .type "range", data := .fields #[.int lo t, .int hi u, .int 1 v] }, toks := tk } := I.kept fun b o e => Heap.get?_push_of_some _ e
  refine ⟨(s.heap.push { cls := .type "range", data := .fields #[.int lo t, .int hi u, .int 1 v] }).objs.size, [(s.heap.push { cls := .type "range", data := .fields #[.int lo t, .int hi u, .int 1 v] }).objs.size], _, _, H, rfl,
    I1.kept (t' := tk) fun b o e => Heap.get?_push_of_some _ e, turn_range _ lo (hi - lo).toNat, ?_, fun b hb => ?_, q⟩
  · have e1 : lo + ((0 : Nat) : Int) * 1 = lo := by simp
    have e2 : (((hi - lo).toNat : Nat) : Int) - ((0 : Nat) : Int) = Builtin.Range.rangeSize lo hi 1 := by rw [rangeSize_one]; split <;> omega
    show IsRangeIter _ _ (lo + ((0 : Nat) : Int) * 1) ((((hi - lo).toNat : Nat) : Int) - ((0 : Nat) : Int)) 1
    rw [e1, e2]
    exact Heap.get?_push_size _ rfl
  · have e : b = (s.heap.push { cls := .type "range", data := .fields #[.int lo t, .int hi u, .int 1 v] }).objs.size := by simpa using hb
    subst e
    exact I1.fpOk (Nat.le_refl _) (I1.hok.fresh (Nat.le_refl _))
def iRng1 (ta : TA) : TI := fun σ H R => ta σ H fun vs H1 => ∃ j : Int, vs = [.int j] ∧ -(2 ^ 62) ≤ j ∧ j < 2 ^ 62 ∧ R (Itr 0 j.toNat) H1
def iRng2 (ta : TA) : TI := fun σ H R => ta σ H fun vs H1 => ∃ i j : Int, vs = [.int i, .int j] ∧ (-(2 ^ 62) ≤ i ∧ i < 2 ^ 62 ∧ -(2 ^ 62) ≤ j ∧ j < 2 ^ 62) ∧ R (Itr i (j - i).toNat) H1
theorem pi_range1 {a : Expr} {ta : TA} {p pos : Pos} (hg : Gl X "range") (hm : X.mg "range" = none) (ha : PA X [a] ta) (hs : starEach [a] X.env = [(false, eval a X.env)] := by rfl) : PI X tg (.Call (.Name "range" p) [a] [] pos) (iRng1 ta) := by
  intro pins s σ H R I h
  refine Call_ (ld_blt I hg hm boot_range (PyProof.Rows.callWith_type1 (thn (ha pos pins s σ H _ I h) fun us s1 ⟨vs, H1, I1, r1, q1⟩ => ?_) hs rfl))
  obtain ⟨j, e, q1, q2, q⟩ := q1
  subst e
  cases r1 with
  | cons r rr =>
    cases rr
    obtain ⟨t, rfl⟩ := r
    exact call_range_1 (range_it I1 (by omega) (by omega) q1 q2 (by simpa using q))
/-! ### for -/
/-- W: the invariant by the turn and a measure; N: what the body is to reach -/
def tFor (wi : TI) (g : TG) (tb : TS) : TS := fun D σ H => wi σ H fun J H1 => ∃ W : Nat → Nat → St → Hp → Prop, (∃ m, W 0 m σ H1) ∧ ∀ i m σ H, W i m σ H →
  (J.stop i H ∧ D.nx σ H) ∨ (J.go i H ∧ ∃ N : St → Hp → Prop, (∀ σ' H', N σ' H' → ∃ m', m' < m ∧ W (i + 1) m' σ' H') ∧ ∀ x H', J.yld i H x H' → g x σ H' fun σ2 H2 => tb { D with nx := N, ct := N, bk := D.nx } σ2 H2)
/-- the records at fp as they stand -/
def pinsAt (fp : List Addr) (h : Heap) : List (Addr × Obj) := fp.filterMap fun b => (h.get? b).map fun o => (b, o)
theorem mem_pinsAt {fp : List Addr} {h : Heap} {b : Addr} {o : Obj} (hb : b ∈ fp) (e : h.get? b = some o) : (b, o) ∈ pinsAt fp h := List.mem_filterMap.mpr ⟨b, hb, by rw [e]; rfl⟩
theorem of_pinsAt {fp : List Addr} {h : Heap} {p : Addr × Obj} (hp : p ∈ pinsAt fp h) : p.1 ∈ fp ∧ h.get? p.1 = some p.2 := by
  obtain ⟨b, hb, e⟩ := List.mem_filterMap.mp hp
  cases q : h.get? b with
  | none => rw [q] at e; cases e
  | some o =>
    rw [q] at e
    have e' : (b, o) = p := Option.some.inj e
    subst e'
    exact ⟨hb, q⟩
theorem Inv.pinned {pins : List (Addr × Obj)} {σ : St} {H : Hp} {s : Shared} {fp : List Addr} (I : Inv X pins σ H s) (hf : ∀ b ∈ fp, FpOk X pins H b) (ho : ∀ b ∈ fp, ∃ o, s.heap.get? b = some o ∧ ∀ v, o.data ≠ .cell v) : Inv X (pins ++ pinsAt fp s.heap) σ H s :=
  I.pins_of fun p hp => (List.mem_append.mp hp).elim (fun z => I.pin p (List.mem_append_right _ z)) fun z => by
    obtain ⟨hb, e⟩ := of_pinsAt z
    obtain ⟨f0, f1, f2, _⟩ := hf p.1 hb
    obtain ⟨o, e', d⟩ := ho p.1 hb
    rw [e] at e'; cases e'
    exact ⟨e, f0, f1, f2, d⟩
theorem Inv.unpinned {pins pl : List (Addr × Obj)} {σ : St} {H : Hp} {s : Shared} (I : Inv X (pins ++ pl) σ H s) : Inv X pins σ H s := I.pins_of fun p hp => I.pin p (List.mem_append_right _ (List.mem_append_left _ hp))
theorem ps_for {iter : Expr} {body : List Stmt} {wi : TI} {g : TG} {tb : TS} {pos : Pos} (hp : PassesOwn (model X.prog X.w) X.A X.env X.xe) (hc : X.calm = true) (hi : PI X tg iter wi) (hg : PG X tg g) (hb : PSs X body tb)
    (hs : ∀ x, foldedSetIterable iter X.env x = pure x := by intro _; rfl) : PS X (.For tg iter body [] pos) (tFor wi g tb) := by
  intro pins s σ H D I h
  refine wpAny_For (thn (hi pins s σ H _ I h) fun v s1 h1 => thn h1 fun itv s2 h2 => ?_) hs
  obtain ⟨it, fp, tn, J, H2, e, I2, T, st2, f2, W, ⟨m0, w0⟩, turn⟩ := h2
  subst e
  -- what stays true of the iterator's objects through the loop
  have stat : ∀ {H' : Hp}, (∀ b ∈ fp, H' b = none) → ∀ b ∈ fp, FpOk X pins H' b := fun hn b hb => ⟨hn b hb, (f2 b hb).2⟩
  refine codeAny_forLoop_any (fun n s' => ∃ i σ' H', Inv X pins σ' H' s' ∧ tn i s'.heap ∧ (∀ b ∈ fp, H' b = none) ∧ W i n σ' H') ?_ m0 ⟨0, σ, H2, I2, st2, fun b hb => (f2 b hb).1, w0⟩
  rintro n s3 ⟨i, σ3, H3, I3, st3, fr3, w3⟩
  rcases turn i n σ3 H3 w3 with ⟨stop, qn⟩ | ⟨go, N, hN, step⟩
  · refine wpAny_passesOwn hp (thn (T.done X rfl rfl rfl hc i pins s3 σ3 H3 X.xe I3 (stat fr3) st3 stop) fun r s4 ⟨hr, I4⟩ => ?_)
    subst hr
    exact wpAny_execs_nil ⟨σ3, H3, I4, qn⟩
  · refine wpAny_passesOwn hp (thn (T.item X rfl rfl rfl hc i pins s3 σ3 H3 X.xe I3 (stat fr3) st3 go) fun r s4 ⟨u, hr, h4⟩ => ?_)
    subst hr
    refine wpAny_passesOwn hp (thn h4 fun _ s5 ⟨x, H5, I5, r5, y5, st5, fr5⟩ => ?_)
    have I5' := I5.pinned (stat fr5) (T.obj _ _ st5)
    refine wpAny_passesOwn hp (thn (hg _ s5 σ3 H5 x u _ I5' r5 (step x H5 y5)) fun _ s6 ⟨σ6, H6, I6, q6⟩ => ?_)
    refine wpAny_passesOwn hp (thn (hb _ s6 σ6 H6 _ I6 q6) fun f s7 q7 => ?_)
    have again : ∀ {σ7 : St} {H7 : Hp}, Inv X (pins ++ pinsAt fp s5.heap) σ7 H7 s7 → N σ7 H7 → ∃ m, m < n ∧ ∃ i σ' H', Inv X pins σ' H' s7 ∧ tn i s7.heap ∧ (∀ b ∈ fp, H' b = none) ∧ W i m σ' H' := fun {σ7 H7} I7 n7 => by
      obtain ⟨m', hm, w7⟩ := hN σ7 H7 n7
      refine ⟨m', hm, i + 1, σ7, H7, I7.unpinned, T.keep _ _ _ st5 fun b hb o e => (I7.pin (b, o) (List.mem_append_right _ (List.mem_append_right _ (mem_pinsAt hb e)))).1, fun b hb => ?_, w7⟩
      obtain ⟨o, e, d⟩ := T.obj _ _ st5 b hb
      exact (I7.pin (b, o) (List.mem_append_right _ (List.mem_append_right _ (mem_pinsAt hb e)))).2.1
    cases f with
    | next => obtain ⟨σ7, H7, I7, n7⟩ := q7; exact again I7 n7
    | cont => obtain ⟨σ7, H7, I7, n7⟩ := q7; exact again I7 n7
    | brk => obtain ⟨σ7, H7, I7, q7⟩ := q7; exact ⟨σ7, H7, I7.unpinned, q7⟩
    | ret v => obtain ⟨x7, σ7, H7, I7, r7, q7⟩ := q7; exact ⟨x7, σ7, H7, I7.unpinned, r7, q7⟩
end

/-! ### the forms one uses -/
/-- over a list that the body leaves as it is -/
theorem for_list {K : PySem.W.Frag} {a : Addr} {xs : List V} {g : TG} {tb : TS} {D : Ends} {σ : St} {H : Hp} (Pv : Nat → St → Hp → Prop) (h0 : Pv 0 σ H) (hl : ∀ i σ H, i ≤ xs.length → Pv i σ H → SqL K H a xs)
    (hs : ∀ i x σ H, xs[i]? = some x → Pv i σ H → g x σ H fun σ2 H2 => tb { D with nx := Pv (i + 1), ct := Pv (i + 1), bk := D.nx } σ2 H2) (hd : ∀ σ H, Pv xs.length σ H → D.nx σ H) :
    ∃ W : Nat → Nat → St → Hp → Prop, (∃ m, W 0 m σ H) ∧ ∀ i m σ H, W i m σ H →
      ((Itl K a).stop i H ∧ D.nx σ H) ∨ ((Itl K a).go i H ∧ ∃ N : St → Hp → Prop, (∀ σ' H', N σ' H' → ∃ m', m' < m ∧ W (i + 1) m' σ' H') ∧ ∀ x H', (Itl K a).yld i H x H' → g x σ H' fun σ2 H2 => tb { D with nx := N, ct := N, bk := D.nx } σ2 H2) := by
  refine ⟨fun i m σ H => m = xs.length - i ∧ i ≤ xs.length ∧ Pv i σ H, ⟨xs.length, by simp, Nat.zero_le _, h0⟩, ?_⟩
  rintro i m σ H ⟨rfl, hi, p⟩
  have q := hl i σ H hi p
  by_cases hlt : i < xs.length
  · refine .inr ⟨⟨xs, xs[i], q, by simp [hlt]⟩, Pv (i + 1), fun σ' H' p' => ⟨xs.length - (i + 1), by omega, rfl, hlt, p'⟩, fun x H' y => ?_⟩
    obtain ⟨e, y⟩ := y
    subst e
    exact hs i x σ _ (y xs q) p
  · have e : i = xs.length := by omega
    subst e
    exact .inl ⟨⟨xs, q, Nat.le_refl _⟩, hd σ H p⟩
theorem for_tup {K : PySem.W.Frag} {a : Addr} {xs : List V} {g : TG} {tb : TS} {D : Ends} {σ : St} {H : Hp} (Pv : Nat → St → Hp → Prop) (h0 : Pv 0 σ H) (hl : ∀ i σ H, i ≤ xs.length → Pv i σ H → SqT K H a xs)
    (hs : ∀ i x σ H, xs[i]? = some x → Pv i σ H → g x σ H fun σ2 H2 => tb { D with nx := Pv (i + 1), ct := Pv (i + 1), bk := D.nx } σ2 H2) (hd : ∀ σ H, Pv xs.length σ H → D.nx σ H) :
    ∃ W : Nat → Nat → St → Hp → Prop, (∃ m, W 0 m σ H) ∧ ∀ i m σ H, W i m σ H →
      ((Itt K a).stop i H ∧ D.nx σ H) ∨ ((Itt K a).go i H ∧ ∃ N : St → Hp → Prop, (∀ σ' H', N σ' H' → ∃ m', m' < m ∧ W (i + 1) m' σ' H') ∧ ∀ x H', (Itt K a).yld i H x H' → g x σ H' fun σ2 H2 => tb { D with nx := N, ct := N, bk := D.nx } σ2 H2) := by
  refine ⟨fun i m σ H => m = xs.length - i ∧ i ≤ xs.length ∧ Pv i σ H, ⟨xs.length, by simp, Nat.zero_le _, h0⟩, ?_⟩
  rintro i m σ H ⟨rfl, hi, p⟩
  have q := hl i σ H hi p
  by_cases hlt : i < xs.length
  · refine .inr ⟨⟨xs, xs[i], q, by simp [hlt]⟩, Pv (i + 1), fun σ' H' p' => ⟨xs.length - (i + 1), by omega, rfl, hlt, p'⟩, fun x H' y => ?_⟩
    obtain ⟨e, y⟩ := y
    subst e
    exact hs i x σ _ (y xs q) p
  · have e : i = xs.length := by omega
    subst e
    exact .inl ⟨⟨xs, q, Nat.le_refl _⟩, hd σ H p⟩
theorem for_range {lo : Int} {n : Nat} {g : TG} {tb : TS} {D : Ends} {σ : St} {H : Hp} (Pv : Nat → St → Hp → Prop) (h0 : Pv 0 σ H)
    (hs : ∀ i σ H, i < n → Pv i σ H → g (.int (lo + i)) σ H fun σ2 H2 => tb { D with nx := Pv (i + 1), ct := Pv (i + 1), bk := D.nx } σ2 H2) (hd : ∀ σ H, Pv n σ H → D.nx σ H) :
    ∃ W : Nat → Nat → St → Hp → Prop, (∃ m, W 0 m σ H) ∧ ∀ i m σ H, W i m σ H →
      ((Itr lo n).stop i H ∧ D.nx σ H) ∨ ((Itr lo n).go i H ∧ ∃ N : St → Hp → Prop, (∀ σ' H', N σ' H' → ∃ m', m' < m ∧ W (i + 1) m' σ' H') ∧ ∀ x H', (Itr lo n).yld i H x H' → g x σ H' fun σ2 H2 => tb { D with nx := N, ct := N, bk := D.nx } σ2 H2) := by
  refine ⟨fun i m σ H => m = n - i ∧ i ≤ n ∧ Pv i σ H, ⟨n, by simp, Nat.zero_le _, h0⟩, ?_⟩
  rintro i m σ H ⟨rfl, hi, p⟩
  by_cases hlt : i < n
  · refine .inr ⟨hlt, Pv (i + 1), fun σ' H' p' => ⟨n - (i + 1), by omega, rfl, hlt, p'⟩, fun x H' y => ?_⟩
    obtain ⟨e, y⟩ := y
    subst e y
    exact hs i σ _ hlt p
  · have e : i = n := by omega
    subst e
    exact .inl ⟨Nat.le_refl _, hd σ H p⟩
end L2

namespace L2
open PySem PySem.Spec PyProof.Rows

abbrev R2 := V → V → Hp → VK → Prop
/-- a two-place operation on values: f is binaryOp op, inplaceOp op or compareOp op -/
def OpR (X : Cx) (f : Value → Value → Sem Value) (r : R2) : Prop :=
  ∀ (pins : List (Addr × Obj)) (s : Shared) (σ : St) (H : Hp) (x y : V) (v u : Value) (Q : VK), Inv X pins σ H s → RelV x v → RelV y u → r x y H Q →
    wpAny (model X.prog X.w) X.A (f v u) (EP X pins σ Q) X.xe s
/-- a one-place operation -/
def UnR (X : Cx) (f : Value → Sem Value) (r : V → Hp → VK → Prop) : Prop :=
  ∀ (pins : List (Addr × Obj)) (s : Shared) (σ : St) (H : Hp) (x : V) (v : Value) (Q : VK), Inv X pins σ H s → RelV x v → r x H Q →
    wpAny (model X.prog X.w) X.A (f v) (EP X pins σ Q) X.xe s
/-- a call of a value that is known (a builtin, a type) with values -/
def CallR (X : Cx) (f : Value) (r : List V → Hp → VK → Prop) : Prop :=
  ∀ (pins : List (Addr × Obj)) (s : Shared) (σ : St) (H : Hp) (xs : List V) (us : List Value) (Q : VK), Inv X pins σ H s → Vals xs us → r xs H Q →
    wpAny (model X.prog X.w) X.A (call f us) (EP X pins σ Q) X.xe s
/-- a value's truth -/
def TruR (X : Cx) (r : V → Hp → (Bool → Hp → Prop) → Prop) : Prop :=
  ∀ (pins : List (Addr × Obj)) (s : Shared) (σ : St) (H : Hp) (x : V) (v : Value) (Q : Bool → Hp → Prop), Inv X pins σ H s → RelV x v → r x H Q →
    wpAny (model X.prog X.w) X.A (truthy v) (TP X pins σ Q) X.xe s

def tOp (r : R2) (ta tb : TE) : TE := fun σ H Q => ta σ H fun x H1 => tb σ H1 fun y H2 => r x y H2 Q
def tUn (r : V → Hp → VK → Prop) (ta : TE) : TE := fun σ H Q => ta σ H fun x H1 => r x H1 Q
/-- ints in, under C, and a value out -/
def rI (C : Int → Int → Prop) (g : Int → Int → V) : R2 := fun x y H Q => ∃ i j, x = .int i ∧ y = .int j ∧ C i j ∧ Q (g i j) H
def rI0 (g : Int → Int → V) : R2 := fun x y H Q => ∃ i j, x = .int i ∧ y = .int j ∧ Q (g i j) H
def rU (g : Int → V) : V → Hp → VK → Prop := fun x H Q => ∃ i, x = .int i ∧ Q (g i) H

section
variable {X : Cx} {a b c : Expr} {ta tb tc : TE} {pos : Pos}

theorem binT (ha : PE X a ta) (hb : PE X b tb) {pins : List (Addr × Obj)} {s : Shared} {σ : St} {H : Hp} {R : V → V → Hp → Prop} (I : Inv X pins σ H s)
    (h : ta σ H fun x H1 => tb σ H1 fun y H2 => R x y H2) {Q : Value → Shared → Prop} {f : Value → Value → Sem Value}
    (hf : ∀ v u s2 x y H2, Inv X pins σ H2 s2 → RelV x v → RelV y u → R x y H2 → wpAny (model X.prog X.w) X.A (f v u) Q X.xe s2) :
    wpAny (model X.prog X.w) X.A (eval a X.env) (fun v s₁ => wpAny (model X.prog X.w) X.A (eval b X.env) (fun u s₂ => wpAny (model X.prog X.w) X.A (f v u) Q X.xe s₂) X.xe s₁) X.xe s := by
  refine thn (ha pins s σ H _ I h) fun v s1 ⟨x, H1, I1, r1, q1⟩ => ?_
  refine thn (hb pins s1 σ H1 _ I1 q1) fun u s2 ⟨y, H2, I2, r2, q2⟩ => ?_
  exact hf v u s2 x y H2 I2 r1 r2 q2

theorem pe_op {op : Operator} {r : R2} (ho : OpR X (binaryOp op) r) (ha : PE X a ta) (hb : PE X b tb) : PE X (.BinOp a op b pos) (tOp r ta tb) := by
  intro pins s σ H Q I h
  exact wpAny_BinOp (binT ha hb I h fun v u s2 x y H2 I2 rx ry q => ho pins s2 σ H2 x y v u Q I2 rx ry q)
theorem pe_un {op : UnaryOp} {r : V → Hp → VK → Prop} (ho : UnR X (unaryOp op) r) (ha : PE X a ta) : PE X (.UnaryOp op a pos) (tUn r ta) := by
  intro pins s σ H Q I h
  exact UnaryOp_ (thn (ha pins s σ H _ I h) fun v s1 ⟨x, H1, I1, r1, q1⟩ => ho pins s1 σ H1 x v Q I1 r1 q1)
/-! ### ints -/
theorem opI {f : Value → Value → Sem Value} {C : Int → Int → Prop} {g : Int → Int → Int}
    (rule : ∀ (i j : Int) (t u : Tok) (s : Shared) (Q : Value → Shared → Prop) (E : Value → Shared → Prop), C i j → Q (.int (g i j) s.toks) { s with toks := s.toks + 1 } → wpAny (model X.prog X.w) X.A (f (.int i t) (.int j u)) Q E s) :
    OpR X f (rI C fun i j => .int (g i j)) := by
  intro pins s σ H x y v u Q I rx ry h
  obtain ⟨i, j, rfl, rfl, hc, q⟩ := h
  obtain ⟨t, rfl⟩ := rx
  obtain ⟨t', rfl⟩ := ry
  exact rule i j t t' s _ _ hc ⟨.int (g i j), H, I.tok _, ⟨_, rfl⟩, q⟩
theorem opI0 {f : Value → Value → Sem Value} {g : Int → Int → Int}
    (rule : ∀ (i j : Int) (t u : Tok) (s : Shared) (Q : Value → Shared → Prop) (E : Value → Shared → Prop), Q (.int (g i j) s.toks) { s with toks := s.toks + 1 } → wpAny (model X.prog X.w) X.A (f (.int i t) (.int j u)) Q E s) :
    OpR X f (rI0 fun i j => .int (g i j)) := by
  intro pins s σ H x y v u Q I rx ry h
  obtain ⟨i, j, rfl, rfl, q⟩ := h
  obtain ⟨t, rfl⟩ := rx
  obtain ⟨t', rfl⟩ := ry
  exact rule i j t t' s _ _ ⟨.int (g i j), H, I.tok _, ⟨_, rfl⟩, q⟩
theorem opB0 {f : Value → Value → Sem Value} {g : Int → Int → Bool}
    (rule : ∀ (i j : Int) (t u : Tok) (s : Shared) (Q : Value → Shared → Prop) (E : Value → Shared → Prop), Q (.bool (g i j)) s → wpAny (model X.prog X.w) X.A (f (.int i t) (.int j u)) Q E s) :
    OpR X f (rI0 fun i j => .bl (g i j)) := by
  intro pins s σ H x y v u Q I rx ry h
  obtain ⟨i, j, rfl, rfl, q⟩ := h
  obtain ⟨t, rfl⟩ := rx
  obtain ⟨t', rfl⟩ := ry
  exact rule i j t t' s _ _ ⟨.bl (g i j), H, I, rfl, q⟩

def CDiv (i j : Int) : Prop := 0 < j ∧ j < 1073741824
def CDivN (i j : Int) : Prop := j ≠ 0 ∧ j.natAbs < 1073741824
def CPow (i j : Int) : Prop := 0 ≤ j ∧ j ≤ 1000000 ∧ i.natAbs < 2 ^ 64
def CMul (i j : Int) : Prop := (-(2 ^ 64) < i ∧ i < 2 ^ 64) ∨ (-(2 ^ 64) < j ∧ j < 2 ^ 64)
theorem CMul.ok {i j : Int} (h : CMul i j) : IntMulOk i j := by
  rcases h with ⟨h1, h2⟩ | ⟨h1, h2⟩
  · exact .of_left (intBits_le_64 h1 h2)
  · exact .of_right (intBits_le_64 h1 h2)
theorem two_pow_nn (k : Nat) : (0 : Int) ≤ 2 ^ k := by
  rw [two_pow_cast]
  exact Int.natCast_nonneg _

theorem op_add : OpR X (binaryOp .Add) (rI0 fun i j => .int (i + j)) := opI0 fun _ _ _ _ _ _ _ q => add_int q
theorem op_sub : OpR X (binaryOp .Sub) (rI0 fun i j => .int (i - j)) := opI0 fun _ _ _ _ _ _ _ q => sub_int q
theorem op_mul : OpR X (binaryOp .Mult) (rI CMul fun i j => .int (i * j)) := opI fun _ _ _ _ _ _ _ hc q => mul_int q hc.ok
/-- % by a positive divisor of any size -/
theorem op_mod : OpR X (binaryOp .Mod) (rI (fun _ j => 0 < j) fun i j => .int (i % j)) := opI fun i j _ _ _ _ _ hc q => by
  have h1 : (0 : Int) < j := hc
  exact mod_int' (by omega) (by rw [Int.fmod_eq_emod_of_nonneg i (by omega)]; exact q)
theorem op_shl : OpR X (binaryOp .LShift) (rI CPow fun i j => .int (i * 2 ^ j.toNat)) := opI fun _ _ _ _ _ _ _ hc q => lshift_int_small hc.1 hc.2.1 hc.2.2 q
theorem op_shr : OpR X (binaryOp .RShift) (rI (fun _ j => 0 ≤ j) fun i j => .int (i / 2 ^ j.toNat)) := opI fun i j _ _ _ _ _ hc q =>
  rshift_int hc (by rw [Int.fdiv_eq_ediv_of_nonneg i (two_pow_nn _)]; exact q)
theorem op_and : OpR X (binaryOp .BitAnd) (rI0 fun i j => .int (Builtin.bitAnd i j)) := opI0 fun _ _ _ _ _ _ _ q => and_int q
theorem op_or : OpR X (binaryOp .BitOr) (rI0 fun i j => .int (Builtin.bitOr i j)) := opI0 fun _ _ _ _ _ _ _ q => or_int q
theorem unI {f : Value → Sem Value} {g : Int → Int}
    (rule : ∀ (i : Int) (t : Tok) (s : Shared) (Q : Value → Shared → Prop) (E : Value → Shared → Prop), Q (.int (g i) s.toks) { s with toks := s.toks + 1 } → wpAny (model X.prog X.w) X.A (f (.int i t)) Q E s) :
    UnR X f (rU fun i => .int (g i)) := by
  intro pins s σ H x v Q I rx h
  obtain ⟨i, rfl, q⟩ := h
  obtain ⟨t, rfl⟩ := rx
  exact rule i t s _ _ ⟨.int (g i), H, I.tok _, ⟨_, rfl⟩, q⟩
theorem un_neg : UnR X (unaryOp .USub) (rU fun i => .int (-i)) := unI fun _ _ _ _ _ q => neg_int q
/-! ### bools among ints: n += (a < b) -/
end

/-! ### comparisons -/
/-- the scalars that == tells apart as data does -/
def scal : V → V → Bool
  | .non, .non => true | .non, .int _ => true | .int _, .non => true | .non, .bl _ => true | .bl _, .non => true | .non, .str _ => true | .str _, .non => true
  | .int _, .int _ => true | .bl _, .bl _ => true | .str _, .str _ => true | .byt _, .byt _ => true
  | .int _, .str _ => true | .str _, .int _ => true | .bl _, .str _ => true | .str _, .bl _ => true
  | _, _ => false
def rEq : R2 := fun x y H Q => scal x y = true ∧ Q (.bl (decide (x = y))) H
def rNe : R2 := fun x y H Q => scal x y = true ∧ Q (.bl (!decide (x = y))) H

theorem dec_int {i j : Int} : decide (V.int i = V.int j) = (i == j) := by
  rw [Bool.eq_iff_iff]
  simp
theorem dec_bl {i j : Bool} : decide (V.bl i = V.bl j) = (i == j) := by
  rw [Bool.eq_iff_iff]
  simp
theorem dec_str {i j : Str} : decide (V.str i = V.str j) = (i == j) := by
  rw [Bool.eq_iff_iff]
  simp
theorem dec_byt {i j : Array UInt8} : decide (V.byt i = V.byt j) = (i.toList == j.toList) := by
  rw [Bool.eq_iff_iff]
  cases i
  cases j
  simp

section
variable {X : Cx} {a b c : Expr} {ta tb tc : TE} {pos : Pos}
theorem fin_bl {pins : List (Addr × Obj)} {σ : St} {H : Hp} {s : Shared} {Q : VK} {k k' : Bool} (I : Inv X pins σ H s) (q : Q (.bl k) H) (e : k = k') : EP X pins σ Q (.bool k') s := by
  subst e
  exact ⟨.bl k, H, I, rfl, q⟩
theorem op_eq : OpR X (compareOp .Eq) rEq := by
  intro pins s σ H x y v u Q I rx ry h
  obtain ⟨hs, q⟩ := h
  cases x with
  | non =>
    cases rx
    cases y with
    | non => cases ry; exact PySem.EqNone.eq_none_none (fin_bl I q (by simp))
    | bl j => cases ry; exact PySem.EqNone.eq_none_bool (fin_bl I q (by simp))
    | int j => obtain ⟨t', rfl⟩ := ry; exact PySem.EqNone.eq_none_int (fin_bl I q (by simp))
    | str j => obtain ⟨t', rfl⟩ := ry; exact PySem.EqNone.eq_none_str (fin_bl I q (by simp))
    | _ => exact absurd (show false = true from hs) Bool.false_ne_true
  | bl i =>
    cases rx
    cases y with
    | non => cases ry; exact PySem.EqNone.eq_bool_none (fin_bl I q (by simp))
    | bl j => cases ry; exact eq_bool (fin_bl I q dec_bl)
    | str j => obtain ⟨t', rfl⟩ := ry; exact PySem.EqMixed.eq_bool_str (fin_bl I q (by simp))
    | _ => exact absurd (show false = true from hs) Bool.false_ne_true
  | int i =>
    obtain ⟨t, rfl⟩ := rx
    cases y with
    | non => cases ry; exact PySem.EqNone.eq_int_none (fin_bl I q (by simp))
    | int j => obtain ⟨t', rfl⟩ := ry; exact eq_int (fin_bl I q dec_int)
    | str j => obtain ⟨t', rfl⟩ := ry; exact PySem.EqMixed.eq_int_str (fin_bl I q (by simp))
    | _ => exact absurd (show false = true from hs) Bool.false_ne_true
  | str i =>
    obtain ⟨t, rfl⟩ := rx
    cases y with
    | non => cases ry; exact PySem.EqNone.eq_str_none (fin_bl I q (by simp))
    | bl j => cases ry; exact PySem.EqMixed.eq_str_bool (fin_bl I q (by simp))
    | int j => obtain ⟨t', rfl⟩ := ry; exact PySem.EqMixed.eq_str_int (fin_bl I q (by simp))
    | str j => obtain ⟨t', rfl⟩ := ry; exact eq_str (fin_bl I q dec_str)
    | _ => exact absurd (show false = true from hs) Bool.false_ne_true
  | byt i =>
    obtain ⟨t, rfl⟩ := rx
    cases y with
    | byt j => obtain ⟨t', rfl⟩ := ry; exact PySem.W.eq_bytes (fin_bl I q dec_byt)
    | _ => exact absurd (show false = true from hs) Bool.false_ne_true
  | _ => cases y <;> exact absurd (show false = true from hs) Bool.false_ne_true
theorem op_ne : OpR X (compareOp .NotEq) rNe := by
  intro pins s σ H x y v u Q I rx ry h
  obtain ⟨hs, q⟩ := h
  cases x with
  | non =>
    cases rx
    cases y with
    | non => cases ry; exact PySem.EqNone.ne_none_none (fin_bl I q (by simp))
    | bl j => cases ry; exact PySem.EqNone.ne_none_bool (fin_bl I q (by simp))
    | int j => obtain ⟨t', rfl⟩ := ry; exact PySem.EqNone.ne_none_int (fin_bl I q (by simp))
    | str j => obtain ⟨t', rfl⟩ := ry; exact PySem.EqNone.ne_none_str (fin_bl I q (by simp))
    | _ => exact absurd (show false = true from hs) Bool.false_ne_true
  | bl i =>
    cases rx
    cases y with
    | non => cases ry; exact PySem.EqNone.ne_bool_none (fin_bl I q (by simp))
    | bl j => cases ry; exact ne_bool (fin_bl I q (congrArg not dec_bl))
    | str j => obtain ⟨t', rfl⟩ := ry; exact PySem.EqMixed.ne_bool_str (fin_bl I q (by simp))
    | _ => exact absurd (show false = true from hs) Bool.false_ne_true
  | int i =>
    obtain ⟨t, rfl⟩ := rx
    cases y with
    | non => cases ry; exact PySem.EqNone.ne_int_none (fin_bl I q (by simp))
    | int j => obtain ⟨t', rfl⟩ := ry; exact ne_int (fin_bl I q (congrArg not dec_int))
    | str j => obtain ⟨t', rfl⟩ := ry; exact PySem.EqMixed.ne_int_str (fin_bl I q (by simp))
    | _ => exact absurd (show false = true from hs) Bool.false_ne_true
  | str i =>
    obtain ⟨t, rfl⟩ := rx
    cases y with
    | non => cases ry; exact PySem.EqNone.ne_str_none (fin_bl I q (by simp))
    | bl j => cases ry; exact PySem.EqMixed.ne_str_bool (fin_bl I q (by simp))
    | int j => obtain ⟨t', rfl⟩ := ry; exact PySem.EqMixed.ne_str_int (fin_bl I q (by simp))
    | str j => obtain ⟨t', rfl⟩ := ry; exact ne_str (fin_bl I q (congrArg not dec_str))
    | _ => exact absurd (show false = true from hs) Bool.false_ne_true
  | byt i =>
    obtain ⟨t, rfl⟩ := rx
    cases y with
    | byt j => obtain ⟨t', rfl⟩ := ry; exact PySem.W.ne_bytes (fin_bl I q (congrArg not dec_byt))
    | _ => exact absurd (show false = true from hs) Bool.false_ne_true
  | _ => cases y <;> exact absurd (show false = true from hs) Bool.false_ne_true

theorem op_le : OpR X (compareOp .LtE) (rI0 fun i j => .bl (decide (i ≤ j))) := opB0 fun _ _ _ _ _ _ _ q => le_int q
theorem op_gt : OpR X (compareOp .Gt) (rI0 fun i j => .bl (decide (j < i))) := opB0 fun _ _ _ _ _ _ _ q => gt_int q
theorem op_ge : OpR X (compareOp .GtE) (rI0 fun i j => .bl (decide (j ≤ i))) := opB0 fun _ _ _ _ _ _ _ q => ge_int q
/-- is, is not of two objects that are tracked lists or instances -/
def isObj : HO → Bool
  | .lst _ => true
  | .ins _ _ _ => true
  | _ => false
theorem nomark (b : Expr) {op : CmpOp} (h : op ≠ .In := by decide) (h2 : op ≠ .NotIn := by decide) : behindInMarks op b = false := by
  have e1 : (op == CmpOp.In) = false := by cases op <;> first | rfl | exact absurd rfl h
  have e2 : (op == CmpOp.NotIn) = false := by cases op <;> first | rfl | exact absurd rfl h2
  cases b <;> simp [behindInMarks, e1, e2]
/-- a comparison as a value; hm: nomark b, or (for in, not in) by with_unfolding_all rfl -/
theorem pe_cmpR {op : CmpOp} {r : R2} (ho : OpR X (compareOp op) r) (ha : PE X a ta) (hb : PE X b tb) (hm : behindInMarks op b = false) : PE X (.Compare a [op] [b] pos) (tOp r ta tb) := by
  intro pins s σ H Q I h
  exact wpAny_Compare1 (binT ha hb I h fun v u s2 x y H2 I2 rx ry q => ho pins s2 σ H2 x y v u Q I2 rx ry q) hm
/-- a reading of a value as a test -/
def tTest (t : TE) : TT := fun σ H Q => t σ H fun x H' => ∃ k, x = .bl k ∧ Q k H'
theorem pt_cmpR {op : CmpOp} {r : R2} (ho : OpR X (compareOp op) r) (ha : PE X a ta) (hb : PE X b tb) (hm : behindInMarks op b = false) : PT X (.Compare a [op] [b] pos) (tTest (tOp r ta tb)) := by
  intro pins s σ H Q I h
  refine wpAny_isTrue_Compare1 (thn (ha pins s σ H _ I h) fun v s1 ⟨x, H1, I1, r1, q1⟩ => thn (hb pins s1 σ H1 _ I1 q1) fun u s2 ⟨y, H2, I2, r2, q2⟩ =>
    thn (ho pins s2 σ H2 x y v u _ I2 r1 r2 q2) fun c s3 ⟨z, H3, I3, r3, k, e, q3⟩ => ?_) hm
  subst e
  cases r3
  exact wpAny_truthy_bool ⟨H3, I3, q3⟩
/-- a op1 b op2 c -/
def tChain (r r' : R2) (ta tb tc : TE) : TE := fun σ H Q => ta σ H fun x H1 => tb σ H1 fun y H2 => r x y H2 fun z H3 => ∃ k, z = .bl k ∧
  (if k = true then tc σ H3 fun w' H4 => r' y w' H4 Q else Q (.bl false) H3)
theorem pe_chain {op op' : CmpOp} {r r' : R2} (ho : OpR X (compareOp op) r) (ho' : OpR X (compareOp op') r') (ha : PE X a ta) (hb : PE X b tb) (hc : PE X c tc)
    (hm : lastMarks [op, op'] [b, c] = false := by with_unfolding_all rfl) : PE X (.Compare a [op, op'] [b, c] pos) (tChain r r' ta tb tc) := by
  intro pins s σ H Q I h
  refine Compare_chain (thn (ha pins s σ H _ I h) fun v s1 ⟨x, H1, I1, r1, q1⟩ => chain_link (thn (hb pins s1 σ H1 _ I1 q1) fun u s2 ⟨y, H2, I2, r2, q2⟩ =>
    thn (ho pins s2 σ H2 x y v u _ I2 r1 r2 q2) fun d s3 ⟨z, H3, I3, r3, k, e, q3⟩ => ?_)) hm
  subst e
  cases r3
  refine wpAny_truthy_bool ?_
  cases k with
  | false => exact ite_ff ⟨.bl false, H3, I3, rfl, q3⟩
  | true => exact ite_tt (chain_last (thn (hc pins s3 σ H3 _ I3 q3) fun w' s4 ⟨z', H4, I4, r4, q4⟩ => ho' pins s4 σ H4 y z' u w' Q I4 r2 r4 q4))
theorem pt_chain {op op' : CmpOp} {r r' : R2} (ho : OpR X (compareOp op) r) (ho' : OpR X (compareOp op') r') (ha : PE X a ta) (hb : PE X b tb) (hc : PE X c tc)
    (hm : lastMarks [op, op'] [b, c] = false := by with_unfolding_all rfl) : PT X (.Compare a [op, op'] [b, c] pos) (tTest (tChain r r' ta tb tc)) := by
  intro pins s σ H Q I h
  refine isTrue_chain (thn (ha pins s σ H _ I h) fun v s1 ⟨x, H1, I1, r1, q1⟩ => test_link (thn (hb pins s1 σ H1 _ I1 q1) fun u s2 ⟨y, H2, I2, r2, q2⟩ =>
    thn (ho pins s2 σ H2 x y v u _ I2 r1 r2 q2) fun d s3 ⟨z, H3, I3, r3, k, e, q3⟩ => ?_)) hm
  subst e
  cases r3
  refine wpAny_truthy_bool ?_
  cases k with
  | false =>
    obtain ⟨k', e', q'⟩ := q3
    cases e'
    exact ite_ff ⟨H3, I3, q'⟩
  | true =>
    refine ite_tt (test_last (thn (hc pins s3 σ H3 _ I3 q3) fun w' s4 ⟨z', H4, I4, r4, q4⟩ => thn (ho' pins s4 σ H4 y z' u w' _ I4 r2 r4 q4) fun d' s5 ⟨z2, H5, I5, r5, k2, e2, q5⟩ => ?_))
    subst e2
    cases r5
    exact wpAny_truthy_bool ⟨H5, I5, q5⟩

/-! ### truth -/
/-- a value's truth by the abstract heap -/
def TruV (K : PySem.W.Frag) (x : V) (H : Hp) (k : Bool) : Prop :=
  match x with
  | .non => k = false
  | .bl b => k = b
  | .int i => k = (i != 0)
  | .str y => y.length ≤ sizeLine ∧ k = ((y.length : Int) != 0)
  | .byt y => y.size ≤ sizeLine ∧ k = ((y.size : Int) != 0)
  | .ref p => (∃ xs, SqL K H p xs ∧ k = !xs.isEmpty) ∨ (∃ xs, SqT K H p xs ∧ k = !xs.isEmpty) ∨ ∃ kvs, H p = some (.dK kvs) ∧ k = !kvs.isEmpty
  | _ => False
theorem line63 : (sizeLine : Nat) < 2 ^ 63 := by rw [sizeLine_eq]; decide
/-! ### strs and bytes -/
def PlainIxT (b : Expr) : Prop := ∀ o i, subscripted b false o i = operate [o, i] (getItem o i)
/-! ### scalar builtins, by CallR -/
theorem vals1 {x : V} {us : List Value} (r : Vals [x] us) : ∃ u, us = [u] ∧ RelV x u := by
  cases r with
  | cons r1 r2 => cases r2; exact ⟨_, rfl, r1⟩
theorem call_ord : CallR X (.builtin "ord") (fun xs H Q => ∃ x, xs = [.str x] ∧ x.length = 1 ∧ Q (.int (x.cps.getD 0 0 : Nat)) H) := by
  intro pins s σ H xs us Q I r h
  obtain ⟨x, rfl, hz, q⟩ := h
  obtain ⟨u, rfl, t, rfl⟩ := vals1 r
  exact ord_of_one hz ⟨.int _, H, I.tok _, ⟨_, rfl⟩, q⟩
/-- len of a str, a bytes, a list, a tuple -/
def LenV (K : PySem.W.Frag) (x : V) (H : Hp) (n : Nat) : Prop :=
  match x with
  | .str y => y.length ≤ sizeLine ∧ n = y.length
  | .byt y => y.size ≤ sizeLine ∧ n = y.size
  | .ref p => (∃ xs, SqL K H p xs ∧ n = xs.length) ∨ ∃ xs, SqT K H p xs ∧ n = xs.length
  | _ => False
end
end L2

namespace L2
open PySem PySem.Spec PyProof.Rows

/-! ### an instance, its attributes a map -/
structure ObjM (h : Heap) (x dx C : Addr) (mA : Str → Option Value) : Prop where
  obj : h.get? x = some (PySem.W.instObj C dx)
  ns : h.Ns1 dx mA
  ne : dx ≠ x

section
variable {prog : Program} {w : World} {A : Around} {E : Value → Shared → Prop} {s : Shared} {K : PySem.W.Frag} {x dx C f : Addr} {mA : Str → Option Value} {name : Str} {v : Value}

end

/-! ### the attributes as a list of pairs -/
def putF (f : Str) (v : V) : List (Str × V) → List (Str × V)
  | [] => [(f, v)]
  | (g, x) :: r => if g = f then (g, v) :: r else (g, x) :: putF f v r
theorem RelO.some_of {v : V} {o : Option Value} (r : RelO (some v) o) : ∃ u, o = some u ∧ RelV v u := by
  cases o with
  | none => exact (show False from r).elim
  | some u => exact ⟨u, rfl, r⟩
section
variable {P : Program} {w : World} {H H' : Hp} {h h' : Heap} {a C dx : Addr} {fs fs' : List (Str × V)}
end

/-! ### what of the text a class must have -/
structure Cls (K : PySem.W.Frag) (C : Addr) : Prop where
  pg : PySem.W.plainGet K C Str.empty = true
  hd : PySem.W.hasDictIn K C = true
  po : PySem.W.plainOver K C = true
  sa : PySem.W.findIn K (.ref C) "__setattr__" = some (some (.builtin "object.__setattr__"))
/-- no class of it has the name -/
def NoAttr (K : PySem.W.Frag) (C : Addr) (f : Str) : Prop := PySem.W.findIn K (.ref C) f = some none
/-- a constant of the class -/
structure Con (K : PySem.W.Frag) (C : Addr) (f : Str) (v : V) (u : Value) : Prop where
  at_ : PySem.W.findIn K (.ref C) f = some (some u)
  rel : RelV v u
  get : PySem.W.specialIn K u "__get__" = some none
  cp : PySem.W.copiedNames.contains f = false
/-- a method: a plain def of the class or of one above it -/
structure Meth (K : PySem.W.Frag) (C : Addr) (m : Str) (f : Addr) : Prop where
  at_ : PySem.W.findIn K (.ref C) m = some (some (.ref f))
  fn : PySem.W.isFn K (.ref f) = true
  kp : PySem.W.keepIn K (.ref f) = true

section
variable {X : Cx} {pins : List (Addr × Obj)} {σ : St} {H : Hp} {s : Shared} {a C dx : Addr} {fs : List (Str × V)} {f : Str} {v : V} {A : Around} {E : Value → Shared → Prop}

end

/-! ### readings and rules -/
/-- e.f, an attribute of the instance -/
def tFld (K : PySem.W.Frag) (ta : TE) (f : Str) : TE := fun σ H Q => ta σ H fun x H1 => ∃ a C dx fs v, x = .ref a ∧ H1 a = some (.ins C dx fs) ∧ Cls K C ∧ NoAttr K C f ∧ fs.lookup f = some v ∧ Q v H1
/-- e.f, a constant of the class -/
def tCon (K : PySem.W.Frag) (ta : TE) (f : Str) : TE := fun σ H Q => ta σ H fun x H1 => ∃ a C dx fs v u, x = .ref a ∧ H1 a = some (.ins C dx fs) ∧ Cls K C ∧ Con K C f v u ∧ fs.lookup f = none ∧ Q v H1
/-- e.f = value -/
def sFld (K : PySem.W.Frag) (ta tv : TE) (f : Str) : TS := fun D σ H => tv σ H fun y H1 => ta σ H1 fun x H2 => ∃ a C dx fs, x = .ref a ∧ H2 a = some (.ins C dx fs) ∧ Cls K C ∧ NoAttr K C f ∧ fs.length < 1000 ∧
  D.nx σ (upd H2 a (.ins C dx (putF f y fs)))
/-- an augmented operator on two values -/
def InOp (X : Cx) (op : Operator) (rd : V → V → Hp → VK → Prop) : Prop :=
  ∀ (pins : List (Addr × Obj)) (s : Shared) (σ : St) (H : Hp) (x y : V) (u v : Value) (Q : VK), Inv X pins σ H s → RelV x u → RelV y v → rd x y H Q → wpAny (model X.prog X.w) X.A (inplaceOp op u v) (EP X pins σ Q) X.xe s
/-- e.f op= value -/
def sFldAug (K : PySem.W.Frag) (ta tv : TE) (rd : V → V → Hp → VK → Prop) (f : Str) : TS := fun D σ H => ta σ H fun x H1 => ∃ a C dx fs v, x = .ref a ∧ H1 a = some (.ins C dx fs) ∧ Cls K C ∧ NoAttr K C f ∧ fs.lookup f = some v ∧
  tv σ H1 fun y H2 => rd v y H2 fun z H3 => ∃ dx' fs', H3 a = some (.ins C dx' fs') ∧ fs'.length < 1000 ∧ D.nx σ (upd H3 a (.ins C dx' (putF f z fs')))

section
variable {X : Cx} {o e value : Expr} {f : Str} {pos pos' tpos : Pos} {ta tv : TE}
def rAdd : V → V → Hp → VK → Prop := fun x y H Q => ∃ i j, x = .int i ∧ y = .int j ∧ Q (.int (i + j)) H
def rSub : V → V → Hp → VK → Prop := fun x y H Q => ∃ i j, x = .int i ∧ y = .int j ∧ Q (.int (i - j)) H
end

/-! ### isinstance -/
section
variable {X : Cx} {pins : List (Addr × Obj)} {σ : St} {H : Hp} {s : Shared} {A : Around} {E : Value → Shared → Prop} {Q : Value → Shared → Prop} {c : Value} {b : Bool}
/-- the type of a value, as the fragment's deciders take it; for an instance its class -/
inductive TyOf (K : PySem.W.Frag) (H : Hp) : V → Value → Prop where
  | non : TyOf K H .non (.type "NoneType")
  | bl (x : Bool) : TyOf K H (.bl x) (.type "bool")
  | int (i : Int) : TyOf K H (.int i) (.type "int")
  | str (x : Str) : TyOf K H (.str x) (.type "str")
  | flt (x : UInt64) : TyOf K H (.flt x) (.type "float")
  | lst {a : Addr} {xs : List V} (e : H a = some (.lst xs)) : TyOf K H (.ref a) (.type "list")
  | frz {a : Addr} {o : Obj} {xs : List V} (e : H a = some (.frz o (.lst xs))) : TyOf K H (.ref a) (.type "list")
  | tup {a : Addr} {xs : List V} (e : H a = some (.tup xs)) : TyOf K H (.ref a) (.type "tuple")
  | dK {a : Addr} {kvs : List (Key × V)} (e : H a = some (.dK kvs)) : TyOf K H (.ref a) (.type "dict")
  | dT {a : Addr} {kvs : List (List Key × V)} (e : H a = some (.dT kvs)) : TyOf K H (.ref a) (.type "dict")
  | ins {a C dx : Addr} {fs : List (Str × V)} (e : H a = some (.ins C dx fs)) (cl : Cls K C) (ha : PySem.W.findIn K (.ref C) "__class__" = some (some (.builtin "object.__class__")))
      (hn : PySem.W.specialIn K (.builtin "object.__class__") "__get__" = some (some (.builtin "getset_descriptor.__get__"))) (htk : PySem.W.takesIn K (.builtin "object.__class__") = some true)
      (hm : PySem.W.mroIn K C (.type "object") = some true) : TyOf K H (.ref a) (.ref C)
end
end L2

namespace L2
open PySem PySem.Spec PyProof.Rows

/-! ### room -/
structure Room (k : Nat) (A : Around) : Prop where
  hd : A.handled = none
  dp : A.depth + 3 * k + 5 < recursionLimit
  un : A.units + 16 * k + 200 < cLine
theorem Room.mono {j k : Nat} {A : Around} (r : Room k A) (h : j ≤ k) : Room j A := ⟨r.hd, by have := r.dp; omega, by have := r.un; omega⟩
theorem Room.deeper {k : Nat} {A : Around} (r : Room (k + 1) A) (env : Env) : Room k (A.deeper env) :=
  ⟨r.hd, by have := r.dp; show A.depth + 1 + 3 * k + 5 < _; omega, by have := r.un; show A.units + 3 + 16 * k + 200 < _; omega⟩
theorem Room.depth {k : Nat} {A : Around} (r : Room k A) : A.depth < recursionLimit := by have := r.dp; omega
theorem Room.units {k : Nat} {A : Around} (r : Room k A) : A.units + 64 < cLine := by have := r.un; omega
/-! ### argument lists and displays -/
def tNil : TA := fun _ H Q => Q [] H
def tCons (ta : TE) (tr : TA) : TA := fun σ H Q => ta σ H fun x H1 => tr σ H1 fun xs H2 => Q (x :: xs) H2
section
variable {X : Cx} {e : Expr} {es : List Expr} {te : TE} {t : TA} {pos : Pos}
theorem pa_nil : PA X [] tNil := fun _ _ _ _ H Q I h => Calls.spliced_nil ⟨[], H, I, .nil, h⟩
theorem pa_cons (ha : PE X e te) (hr : PA X es t) (hs : starEach (e :: es) X.env = (false, eval e X.env) :: starEach es X.env := by rfl) : PA X (e :: es) (tCons te t) := by
  intro pos pins s σ H Q I h
  rw [hs]
  show wpAny _ _ (spliced ((false, eval e X.env) :: backTo pos (starEach es X.env))) _ _ s
  refine Calls.spliced_cons (thn (ha pins s σ H _ I h) fun u s1 ⟨x, H1, I1, r1, q1⟩ => ?_)
  exact thn (hr pos pins s1 σ H1 _ I1 q1) fun us s2 ⟨xs, H2, I2, r2, q2⟩ => ⟨x :: xs, H2, I2, .cons r1 r2, q2⟩

/-- a tuple, a list of written items -/
def tTup (t : TA) : TE := fun σ H Q => t σ H fun xs H1 => xs.length ≤ sizeLine ∧ ∀ p, H1 p = none → Q (.ref p) (upd H1 p (.tup xs))
def tLst (t : TA) : TE := fun σ H Q => t σ H fun xs H1 => xs.length ≤ sizeLine ∧ ∀ p, H1 p = none → Q (.ref p) (upd H1 p (.lst xs))
theorem pe_tup {x1} (h : PA X es t) : PE X (.Tuple es x1 pos) (tTup t) := by
  intro pins s σ H Q I hq
  refine wpAny_Tuple_spliced (thn (h pos pins s σ H _ I hq) fun us s1 ⟨xs, H1, I1, r, z, q⟩ => ⟨by rw [← r.length]; exact z, ?_⟩)
  have hf : H1 s1.heap.objs.size = none := I1.hok.fresh (Nat.le_refl _)
  refine ⟨.ref s1.heap.objs.size, upd H1 s1.heap.objs.size (.tup xs), I1.laid (t' := s1.toks) (fun b u e => Heap.get?_push_of_some _ e) (Nat.le_refl _) ?_, rfl, q _ hf⟩
  exact ⟨z, us, r, ⟨_, Heap.get?_push_size _ rfl, rfl, _, rfl⟩⟩
theorem pe_lst (h : PA X es t) : PE X (.List es pos) (tLst t) := by
  intro pins s σ H Q I hq
  refine wpAny_List_spliced (thn (h pos pins s σ H _ I hq) fun us s1 ⟨xs, H1, I1, r, z, q⟩ => ⟨by rw [← r.length]; exact z, ?_⟩)
  have hf : H1 s1.heap.objs.size = none := I1.hok.fresh (Nat.le_refl _)
  refine ⟨.ref s1.heap.objs.size, upd H1 s1.heap.objs.size (.lst xs), I1.laid (t' := s1.toks) (fun b u e => Heap.get?_push_of_some _ e) (Nat.le_refl _) ?_, rfl, q _ hf⟩
  exact ⟨z, us, 0, r, Heap.get?_push_size _ rfl⟩
end

/-! ### what a def promises -/
/-- a def's promise: the bound arguments in the parameters' order, the heap, the wanted end, the wanted exception -/
abbrev Sp := List V → Hp → VK → XK → Prop
/-- how an exception lies behind a call (file 08 gives it): the callers' frames, abstract heap and state ahead of the call, the wish, the exception, the state -/
abbrev CXT := List Env → Hp → Shared → XK → Value → Shared → Prop

/-- the state at a call -/
structure Env0 (P : Program) (w : World) (K : PySem.W.Frag) (mg : Str → Option Value) (base : Heap) (A : Around) (outer : List Env) (s : Shared) (H : Hp) : Prop where
  frames : A.frames = some outer
  mod : Mod K mg base
  bs : ∀ b o, base.get? b = some o → s.heap.get? b = some o ∧ H b = none
  bsz : base.objs.size ≤ s.heap.objs.size
  funs : s.heap.FunFrames base outer
  frf : ∀ b ∈ frs outer, H b = none
  hok : HOk P w H s.heap
  bare : AllBare s.gens
/-- a call's end -/
def CE (outer : List Env) (P : Program) (w : World) (H : Hp) (s : Shared) (Q : VK) (u : Value) (s' : Shared) : Prop :=
  ∃ v H', s'.os = s.os ∧ AllBare s'.gens ∧ Un (frs outer) [] H H' s.heap s'.heap ∧ HOk P w H' s'.heap ∧ RelV v u ∧ Q v H'
def CR (CX : CXT) (outer : List Env) (P : Program) (w : World) (H : Hp) (s : Shared) (Q : VK) (E : XK) (r : Result) (s' : Shared) : Prop :=
  match r with
  | .ok (.ret u) => CE outer P w H s Q u s'
  | .ok _ => False
  | .error e => CX outer H s E e s'
structure FnOk (P : Program) (w : World) (K : PySem.W.Frag) (mg : Str → Option Value) (base : Heap) (CX : CXT) (k : Nat) (f : Addr) (fd : FuncData) (ps : List Str) (sp : Sp) : Prop where
  len : ∀ vs H Q E, sp vs H Q E → vs.length = ps.length
  run : ∀ (A : Around) (outer : List Env) (s : Shared) (H : Hp) (args : Args) (us : List Value) (vs : List V) (Q : VK) (E : XK), Room k A → Env0 P w K mg base A outer s H → BindsTo s fd args (ps.zip us) → Vals vs us → sp vs H Q E →
    codeAny (model P w) A (.call (.ref f) args) (CR CX outer P w H s Q E) s
section
variable {X : Cx} {pins : List (Addr × Obj)} {σ : St} {H : Hp} {s s' : Shared}
/-- from a body: what a callee wants -/
theorem Inv.env0 (I : Inv X pins σ H s) : Env0 X.prog X.w X.K X.mg X.base X.A X.stack s H :=
  ⟨I.ok.frames, I.ok.mod, I.bs, Nat.le_trans I.ok.bsz I.sz, I.stack, I.stkFree, I.hok, I.bare⟩
/-- behind a call -/
theorem Inv.after {Q : VK} {u : Value} (I : Inv X pins σ H s) (h : CE X.stack X.prog X.w H s Q u s') : EP X pins σ Q u s' := by
  obtain ⟨v, H', os, bare, un, hok, r, q⟩ := h
  obtain ⟨hh, g, d, t, os'⟩ := s'
  obtain rfl : os' = s.os := os
  exact ⟨v, H', I.call (h' := hh) (g' := g) (d' := d) (t' := t) (ch := []) un hok bare (fun b z => absurd z (by simp)), r, q⟩
end

/-! ### calls -/
/-- f(..): the written arguments, then the defaults dvs; E: what is wanted of an exception -/
def tCall (sp : Sp) (dvs : List V) (E : XK) (t : TA) : TE := fun σ H Q => t σ H fun vs H1 => sp (vs ++ dvs) H1 Q E
/-- o.m(..) of an instance of the class at C -/
def tMeth (C : Addr) (m : Str) (sp : Sp) (dvs : List V) (E : XK) (ta : TE) (t : TA) : TE := fun σ H Q => ta σ H fun x H1 => ∃ a dx fs, x = .ref a ∧ H1 a = some (.ins C dx fs) ∧ fs.lookup m = none ∧
  t σ H1 fun vs H2 => sp (x :: (vs ++ dvs)) H2 Q E
/-- C(..): a new instance and its dict, then __init__ -/
def tMake (C : Addr) (sp : Sp) (dvs : List V) (E : XK) (t : TA) : TE := fun σ H Q => t σ H fun vs H1 => ∀ x dx, H1 x = none → H1 dx = none → dx ≠ x →
  sp (.ref x :: (vs ++ dvs)) (upd (upd H1 dx (.own x)) x (.ins C dx [])) (fun v H2 => v = .non ∧ Q (.ref x) H2) E

/-- how the parameters are bound: us the positional arguments, kw the keywords' values by name, ds the defaults that fill up -/
def Binds (K : PySem.W.Frag) (fd : FuncData) (ps : List Str) (ds : List Value) : Prop :=
  ∀ (s : Shared) (us : List Value), K.In s.heap → (us ++ ds).length = ps.length → BindsTo s fd ⟨us, []⟩ (ps.zip (us ++ ds))
/-- every parameter is given -/
theorem Binds.all {K : PySem.W.Frag} {fd : FuncData} {ps : List Str} (h : ∀ us : List Value, us.length = ps.length → bindArgs fd ⟨us, []⟩ = pure (ps.zip us)) : Binds K fd ps [] := fun s us _ hl => by
  rw [List.append_nil] at hl ⊢
  exact .of_eq (h us hl)

/-- an exception of a callee reaches what this body wants of exceptions -/
def Passes (CX : CXT) (X : Cx) (E : XK) : Prop := ∀ (pins : List (Addr × Obj)) (σ : St) (H : Hp) (s : Shared) (e : Value) (s' : Shared), Inv X pins σ H s → CX X.stack H s E e s' → X.xe e s'

section
variable {X : Cx} {CX : CXT} {k : Nat} {f C : Addr} {fd : FuncData} {ps : List Str} {sp : Sp} {dvs : List V} {ds : List Value} {E : XK} {x m : Str} {p pos apos : Pos} {e o : Expr} {es : List Expr} {ta : TE} {t : TA}

/-- the callee runs -/
theorem run_fn {pins : List (Addr × Obj)} {σ : St} {H : Hp} {s : Shared} {Q : VK} {us : List Value} {vs : List V} (F : FnOk X.prog X.w X.K X.mg X.base CX k f fd ps sp) (hr : Room k X.A) (hb : Binds X.K fd ps ds) (hd : Vals dvs ds) (hx : Passes CX X E)
    (I : Inv X pins σ H s) (r : Vals vs us) (h : sp (vs ++ dvs) H Q E) : wpAny (model X.prog X.w) X.A (call (.ref f) us) (EP X pins σ Q) X.xe s := by
  have r2 : Vals (vs ++ dvs) (us ++ ds) := r.append hd
  have hl : (us ++ ds).length = ps.length := by rw [← r2.length]; exact F.len _ _ _ _ h
  refine wpAny_call (codeAny_mono (F.run X.A X.stack s H ⟨us, []⟩ (us ++ ds) (vs ++ dvs) Q E hr I.env0 (hb s us I.kIn hl) r2 h) fun r s' hq => ?_)
  cases r with
  | error e => exact hx pins σ H s e s' I hq
  | ok fl =>
    cases fl with
    | ret u => exact I.after hq
    | next => exact False.elim hq
    | brk => exact False.elim hq
    | cont => exact False.elim hq

theorem pe_call (F : FnOk X.prog X.w X.K X.mg X.base CX k f fd ps sp) (hr : Room k X.A) (hg : Gl X x) (hm : X.mg x = some (.ref f)) (hk : PySem.W.keepIn X.K (.ref f) = true) (hb : Binds X.K fd ps ds) (hd : Vals dvs ds) (hx : Passes CX X E)
    (ha : PA X (e :: es) t) (hdb : (x == ("__debug__" : Str)) = false := by decide) (he : starEach (e :: es) X.env = (false, eval e X.env) :: starEach es X.env := by rfl) (hpl : (backTo pos (starEach es X.env)).any (·.1) = false := by rfl) :
    PE X (.Call (.Name x p) (e :: es) [] pos) (tCall sp dvs E t) := by
  intro pins s σ H Q I h
  refine wpAny_Call_Name_kw (ld_glob I hg hm ?_ hdb)
  refine PySem.W.callWith_K (h₀ := X.base) I.ok.mod.kin hk (thn (ha pos pins s σ H _ I h) fun us s1 ⟨vs, H1, I1, r, q⟩ => ⟨I1.kIn, ?_⟩) he hpl
  exact run_fn F hr hb hd hx I1 r q
/-- what a class must have to be made -/
structure Mk (K : PySem.W.Frag) (C f : Addr) : Prop where
  makes : PySem.W.makesIn K C = true
  init : PySem.W.findIn K (.ref C) "__init__" = some (some (.ref f))
  fn : PySem.W.isFn K (.ref f) = true
  kp : PySem.W.keepIn K (.ref C) = true

end

/-! ### keywords -/
/-- the values of the keywords, from the left -/
def PK (X : Cx) (kws : List Keyword) (t : TA) : Prop :=
  ∀ (pos : Pos) (pins : List (Addr × Obj)) (s : Shared) (σ : St) (H : Hp) (Q : List V → Hp → Prop), Inv X pins σ H s → t σ H Q → wpAny (model X.prog X.w) X.A (evalAll ((backToKw pos (keywordEach kws X.env)).map (·.2))) (AP X pins σ Q) X.xe s
section
variable {X : Cx} {CX : CXT} {k : Nat} {f C : Addr} {fd : FuncData} {ps ks : List Str} {sp : Sp} {E : XK} {x m : Str} {p pos apos kpos : Pos} {e o : Expr} {es : List Expr} {kws : List Keyword} {te ta : TE} {t tk : TA} {nm : Option Str}
/-- how a call with keywords binds: g puts the positional values us and the keywords' values ws (names ks) in the parameters' order, defaults among them -/
structure KBinds (K : PySem.W.Frag) (fd : FuncData) (ps ks : List Str) (g : List Value → List Value → List Value) (gV : List V → List V → List V) : Prop where
  to : ∀ (s : Shared) (us ws : List Value), K.In s.heap → (g us ws).length = ps.length → BindsTo s fd ⟨us, ks.zip ws⟩ (ps.zip (g us ws))
  rel : ∀ {vs : List V} {us : List Value} {zs : List V} {ws : List Value}, Vals vs us → Vals zs ws → Vals (gV vs zs) (g us ws)
def tCallK (sp : Sp) (gV : List V → List V → List V) (E : XK) (t tk : TA) : TE := fun σ H Q => t σ H fun vs H1 => tk σ H1 fun zs H2 => sp (gV vs zs) H2 Q E
variable {g : List Value → List Value → List Value} {gV : List V → List V → List V}
end

/-! ### a def's body keeps its promise -/
/-- names: the parameters first -/
structure FnScope (N P : List Str) (sc : Scope) : Prop where
  kind : sc.kind = .function
  co : sc.isCoroutine = false
  gen : sc.isGenerator = false
  nd : N.Nodup
  pre : N.take P.length = P
  par : ∀ x ∈ P, sc.names.lookup x = some .local ∨ sc.names.lookup x = some .cell
  nofree : ∀ y ∈ sc.names, y.2 ≠ .free

theorem bindL_out {kindOf : Str → Option NameKind} {x : Str} : ∀ {binds : List (Str × Value)} {m : Str → Option Value}, (∀ v, (x, v) ∉ binds) → bindL kindOf binds m x = m x
  | [], _, _ => rfl
  | (n, v) :: r, m, h => by
    unfold bindL
    rw [bindL_out fun w hw => h w (List.mem_cons_of_mem _ hw)]
    split
    · have : x ≠ n := by rintro rfl; exact h v List.mem_cons_self
      simp [this]
    · rfl
theorem bindC_out {kindOf : Str → Option NameKind} {x : Str} : ∀ {binds : List (Str × Value)} {m : Str → Option Value}, (∀ v, (x, v) ∉ binds) → bindC kindOf binds m x = m x
  | [], _, _ => rfl
  | (n, v) :: r, m, h => by
    unfold bindC
    rw [bindC_out fun w hw => h w (List.mem_cons_of_mem _ hw)]
    split
    · rfl
    · have : x ≠ n := by rintro rfl; exact h v List.mem_cons_self
      simp [this]
theorem bindL_get {kindOf : Str → Option NameKind} {x : Str} {v : Value} : ∀ {P : List Str} {vs : List Value} {i : Nat} {m : Str → Option Value}, P.Nodup → P[i]? = some x → vs[i]? = some v → kindOf x = some .local →
    bindL kindOf (P.zip vs) m x = some v
  | [], _, _, _, _, h, _, _ => by simp at h
  | _ :: _, [], _, _, _, _, h, _ => by simp at h
  | p :: P, w :: vs, 0, m, nd, h1, h2, hk => by
    simp at h1 h2; subst h1; subst h2
    show bindL kindOf ((p, w) :: P.zip vs) m p = _
    unfold bindL
    rw [bindL_out fun v hv => (List.nodup_cons.mp nd).1 (List.of_mem_zip hv).1, if_pos hk]
    simp
  | p :: P, w :: vs, i + 1, m, nd, h1, h2, hk => by
    show bindL kindOf ((p, w) :: P.zip vs) m x = _
    unfold bindL
    exact bindL_get (i := i) (List.nodup_cons.mp nd).2 (by simpa using h1) (by simpa using h2) hk
theorem bindC_get {kindOf : Str → Option NameKind} {x : Str} {v : Value} : ∀ {P : List Str} {vs : List Value} {i : Nat} {m : Str → Option Value}, P.Nodup → P[i]? = some x → vs[i]? = some v → kindOf x ≠ some .local →
    bindC kindOf (P.zip vs) m x = some v
  | [], _, _, _, _, h, _, _ => by simp at h
  | _ :: _, [], _, _, _, _, h, _ => by simp at h
  | p :: P, w :: vs, 0, m, nd, h1, h2, hk => by
    simp at h1 h2; subst h1; subst h2
    show bindC kindOf ((p, w) :: P.zip vs) m p = _
    unfold bindC
    rw [bindC_out fun v hv => (List.nodup_cons.mp nd).1 (List.of_mem_zip hv).1, if_neg hk]
    simp
  | p :: P, w :: vs, i + 1, m, nd, h1, h2, hk => by
    show bindC kindOf ((p, w) :: P.zip vs) m x = _
    unfold bindC
    exact bindC_get (i := i) (List.nodup_cons.mp nd).2 (by simpa using h1) (by simpa using h2) hk

/-- the names' values at the entry -/
def start (N : List Str) (vs : List V) : St := vs.map some ++ List.replicate (N.length - vs.length) none

/-- the context of a def's body, at its entry; an exception leaves the frame, then lies as CX says -/
def cxOf (CX : CXT) (P : Program) (w : World) (K : PySem.W.Frag) (mg : Str → Option Value) (base : Heap) (N : List Str) (qual : Str) (scope : Scope) (f : Addr) (cd : Value) (A : Around) (outer : List Env) (s : Shared) (H : Hp) (E : XK) : Cx where
  prog := P
  w := w
  K := K
  mg := mg
  base := base
  A := A.deeper (envOfC qual scope s.heap.objs.size f cd)
  N := N
  s_0 := s
  H_0 := H
  env := envOfC qual scope s.heap.objs.size f cd
  outer := outer
  stack := envOfC qual scope s.heap.objs.size f cd :: outer
  ex := []
  calm := true
  fn := fun _ => true
  pn := []
  xe := fun e s' => wpAny (model P w) (A.deeper (envOfC qual scope s.heap.objs.size f cd)) (leaving (envOfC qual scope s.heap.objs.size f cd) e) (fun _ s'' => CX outer H s E e s'') (fun e' s'' => CX outer H s E e' s'') s'

theorem cell_has {sc : Scope} {n : Nat} {x : Str} (h : sc.names.lookup x = some .cell) : ∃ c, (cellsFrom n sc.names []).lookup x = some c := by
  have q := PySem.W.cellsFrom_some sc.names n [] (.inl h)
  exact Option.isSome_iff_exists.mp q

theorem inv_start {CX : CXT} {P : Program} {w : World} {K : PySem.W.Frag} {mg : Str → Option Value} {base : Heap} {N ps : List Str} {qual : Str} {scope : Scope} {f : Addr} {cd : Value} {A : Around} {outer : List Env} {s s1 : Shared} {H : Hp} {E : XK} {us : List Value} {vs : List V}
    (S : FnScope N ps scope) (hd : A.handled = none) (e0 : Env0 P w K mg base A outer s H) (hl : vs.length = ps.length) (r : Vals vs us)
    (x : InCallC s s.heap.objs.size (bindL (envOfC qual scope s.heap.objs.size f cd).kindOf (ps.zip us) fun _ => none) (cellsFrom (s.heap.objs.size + 1) scope.names []) (bindC (envOfC qual scope s.heap.objs.size f cd).kindOf (ps.zip us) fun _ => none) s1) :
    Inv (cxOf CX P w K mg base N qual scope f cd A outer s H E) [] (start N vs) H s1 := by
  have hpl : ps.length ≤ N.length := by have := congrArg List.length S.pre; rw [List.length_take] at this; omega
  obtain ⟨h1, tk, rfl, hk⟩ := x.done
  have noA : ∀ b : Addr, b ∉ (cxOf CX P w K mg base N qual scope f cd A outer s H E).ex := fun b z => absurd (show b ∈ ([] : List Addr) from z) (by simp)
  refine ⟨⟨e0.mod, S.kind, rfl, rfl, Nat.le_refl _, fun y z c h1 h2 => ?_, fun y hy => ?_, fun y c _ h => ?_, fun _ => hd, Around.frames_deeper e0.frames, .inr ⟨rfl, rfl⟩, fun b z => absurd z (noA b), e0.bs, e0.bsz, fun b _ _ => noA b, fun b z => absurd z (noA b), e0.funs, e0.frf⟩,
    rfl, e0.bare, Un.kept hk, ⟨_, x.toInCall.ns, fun i y v h1 h2 h3 => ?_⟩, fun y c h => ⟨_, x.cell y c h⟩, e0.hok.fresh (Nat.le_refl _), fun y c h => ?_, fun p hp => absurd (show p ∈ ([] : List (Addr × Obj)) from hp) (by simp), e0.hok.kept hk, ?_⟩
  · exact name_of_addr x.apart (PySem.mem_of_lookup h1) (PySem.mem_of_lookup h2)
  · have hy : scope.names.lookup y = some .cell ∨ scope.names.lookup y = some .free := hy
    rcases hy with hy | hy
    · exact cell_has hy
    · exact absurd rfl (S.nofree _ (PySem.mem_of_lookup hy))
  · exact Nat.le_of_lt (x.above y c (PySem.mem_of_lookup h))
  · have hi : i < vs.length := by
      unfold start at h2
      by_cases hi : i < vs.length
      · exact hi
      · rw [List.getElem?_append_right (by simpa using hi)] at h2
        rw [List.getElem?_replicate] at h2
        split at h2 <;> cases h2
    have ha : vs[i]? = some v := by
      unfold start at h2
      rw [List.getElem?_append_left (by simpa using hi), List.getElem?_map] at h2
      cases e : vs[i]? with
      | none => rw [e] at h2; cases h2
      | some a => rw [e] at h2; cases h2; rfl
    obtain ⟨u, hu, rv⟩ := r.get ha
    have hp : ps[i]? = some y := by
      rw [← S.pre, List.getElem?_take_of_lt (by omega)]; exact h1
    have ndP : ps.Nodup := by rw [← S.pre]; exact S.nd.sublist (List.take_sublist _ _)
    refine ⟨u, rv, ?_⟩
    rcases S.par y (List.mem_of_getElem? hp) with k | k
    · exact .inl ⟨k, bindL_get ndP hp hu k⟩
    · obtain ⟨c, e⟩ := cell_has (n := s.heap.objs.size + 1) k
      refine .inr ⟨.inl k, c, e, ?_⟩
      have q := x.cell y c e
      rw [bindC_get ndP hp hu (by show scope.names.lookup y ≠ _; rw [k]; decide)] at q
      exact q
  · exact e0.hok.fresh (Nat.le_of_lt (x.above y c (PySem.mem_of_lookup h)))
  · unfold start
    show _ = N.length
    rw [List.length_append, List.length_map, List.length_replicate]
    omega

/-- THE RULE: a def (or a method) of the text, by its body. The body's reading t is chosen for each entry; it is run at the parameters' values -/
theorem fn_of {CX : CXT} {P : Program} {w : World} {K : PySem.W.Frag} {mg : Str → Option Value} {base : Heap} {k : Nat} {f : Addr} {name qual : Str} {params : Arguments} {body : List Stmt} {scope : Scope} {dV kV doc pm cdv ct oc : Value} {an od : Option Addr}
    {osl : Array (Option Value)} {N ps : List Str} {sp : Sp} (lk : K.lookup f = some ⟨oc, od, .func (PySem.W.fnOf name qual params body scope dV kV doc pm an cdv ct), osl⟩) (hcd : PySem.W.codeIn K cdv qual = true) (S : FnScope N ps scope)
    (len : ∀ vs H Q E, sp vs H Q E → vs.length = ps.length)
    (hbody : ∀ (A : Around) (outer : List Env) (s : Shared) (H : Hp) (vs : List V) (Q : VK) (E : XK), Room k (A.deeper (envOfC qual scope s.heap.objs.size f cdv)) → sp vs H Q E →
      ∃ t, PSs (cxOf CX P w K mg base N qual scope f cdv A outer s H E) body t ∧ t { nx := fun _ H' => Q .non H', rt := Q } (start N vs) H) :
    FnOk P w K mg base CX (k + 1) f (PySem.W.fnOf name qual params body scope dV kV doc pm an cdv ct) ps sp := by
  refine ⟨len, fun A outer s H args us vs Q E hr e0 hb r hsp => ?_⟩
  have hl := len _ _ _ _ hsp
  have KX : K.In s.heap := e0.mod.kin.keeps fun b o e => (e0.bs b o e).1
  have lim : s.heap.NoLimit := e0.mod.nolimit.keeps fun b o e => (e0.bs b o e).1
  have hkind : ∀ y ∈ ps.zip us, scope.names.lookup y.1 = some .local ∨ (scope.names.lookup y.1 = some .cell ∧ ((cellsFrom (s.heap.objs.size + 1) scope.names []).lookup y.1).isSome = true) := fun ⟨n, v⟩ hy => by
    rcases S.par n (List.of_mem_zip hy).1 with q | q
    · exact .inl q
    · exact .inr ⟨q, PySem.W.cellsFrom_some _ _ _ (.inl q)⟩
  refine codeAny_call_function hr.depth (KX _ _ lk) rfl S.co S.gen rfl (PySem.W.codeRec_of KX hcd) (hb _ _ _ _ ?_)
  refine wpAny_newFunctionEnv_cells S.kind hkind fun env he s1 x => ?_
  subst he
  refine ⟨lim.keeps x.toInCall.keep, codeAny_func ?_⟩
  obtain ⟨t, ht, hq⟩ := hbody A outer s H vs Q E (hr.deeper _) hsp
  have I : Inv (cxOf CX P w K mg base N qual scope f cdv A outer s H E) [] (start N vs) H s1 := inv_start S hr.hd e0 hl r x
  refine wpAny_mono (ht [] s1 (start N vs) H _ I hq) (fun fl s' hs => ?_) fun e s' hs => hs
  have fin : ∀ {σ' : St} {H' : Hp} {v : V} {u : Value}, Inv (cxOf CX P w K mg base N qual scope f cdv A outer s H E) [] σ' H' s' → RelV v u → Q v H' → CE outer P w H s Q u s' :=
    fun {σ' H' v u} J rv q => ⟨v, H', J.os, J.bare, J.base, J.hok, rv, q⟩
  cases fl with
  | ret u =>
    obtain ⟨v, σ', H', J, rv, q⟩ := hs
    exact fin J rv q
  | next =>
    obtain ⟨σ', H', J, q⟩ := hs
    exact fin (v := V.non) (u := Value.none) J rfl q
  | brk =>
    obtain ⟨_, _, _, q⟩ := hs
    exact False.elim q
  | cont =>
    obtain ⟨_, _, _, q⟩ := hs
    exact False.elim q
end L2

namespace L2
open PySem PySem.Spec PyProof.Rows
section
variable {X : Cx} {x : Str} {p pos : Pos} {e : Expr} {es : List Expr} {t : TA} {id T : String} {r : List V → Hp → VK → Prop}

def tCB (r : List V → Hp → VK → Prop) (t : TA) : TE := fun σ H Q => t σ H fun vs H1 => r vs H1 Q
/-- f(e, ..), f a built-in function -/
theorem pe_callB (hc : CallR X (.builtin id) r) (hg : Gl X x) (hm : X.mg x = none) (hv : bootBuiltins x = some (.builtin id)) (ha : PA X (e :: es) t) (hn : x ≠ "__name__" := by decide) (hdb : (x == ("__debug__" : Str)) = false := by decide)
    (he : starEach (e :: es) X.env = (false, eval e X.env) :: starEach es X.env := by rfl) (hpl : (backTo pos (starEach es X.env)).any (·.1) = false := by rfl) : PE X (.Call (.Name x p) (e :: es) [] pos) (tCB r t) := by
  intro pins s σ H Q I h
  refine wpAny_Call_Name_kw (ld_blt I hg hm hv ?_ hn hdb)
  exact PyProof.Rows.callWith_builtin1 (thn (ha pos pins s σ H _ I h) fun us s1 ⟨vs, H1, I1, r1, q1⟩ => hc pins s1 σ H1 vs us Q I1 r1 q1) he hpl
end
end L2

namespace HT
open PySem PyProof.Rows

/-- t < u of tuples of ints -/
def lexLt : List Int → List Int → Bool
  | [], [] => false
  | [], _ :: _ => true
  | _ :: _, [] => false
  | x :: xs, y :: ys => if x = y then lexLt xs ys else decide (x < y)
section
open PySem.SeqAt
open PySem.AutoSeq1 (wpAny_loadPart')
open PySem.MeetsSeq PySem.MeetsSeq2 PySem.MeetsSeq3

end

section
variable {prog : Program} {w : World} {A : Around} {E : Value → Shared → Prop} {s : Shared}

/-! ### t[a:b], not the whole -/
/-- a slice's bound as a place among n (d where it is left out) -/
def sIx (n d : Nat) : Option Int → Nat
  | none => d
  | some v => if v < 0 then (v + (n : Int)).toNat else min v.toNat n
theorem sIx_none (n d : Nat) : sIx n d none = d := rfl
theorem sIx_nat (n d k : Nat) : sIx n d (some (k : Int)) = min k n := by
  show (if (k : Int) < 0 then ((k : Int) + (n : Int)).toNat else min (k : Int).toNat n) = min k n
  rw [if_neg (by omega), Int.toNat_natCast]
end
end HT

namespace L2
open PySem PySem.Spec PyProof.Rows

/-! ### the parts of a slice -/
abbrev TO := St → Hp → (Option Int → Hp → Prop) → Prop
/-- a slice's part (left out, or an int) -/
def PO (X : Cx) (e : Option Expr) (t : TO) : Prop :=
  ∀ (pins : List (Addr × Obj)) (s : Shared) (σ : St) (H : Hp) (Q : Option Int → Hp → Prop), Inv X pins σ H s → t σ H Q →
    wpAny (model X.prog X.w) X.A (evalPart e X.env) (fun u s' => ∃ o H', Inv X pins σ H' s' ∧ IsPart u o ∧ Q o H') X.xe s
def tNoPart : TO := fun _ H Q => Q none H
def tPart (t : TE) : TO := fun σ H Q => t σ H fun x H1 => ∃ i, x = .int i ∧ Q (some i) H1

section
variable {X : Cx} {e : Expr} {te : TE} {lo hi : Option Expr} {tl th : TO} {pos p2 : Pos}

theorem po_none : PO X none tNoPart := by
  intro pins s σ H Q I h
  rw [evalPart_none]
  exact wpAny_pure ⟨none, H, I, .none, h⟩
theorem po_some (h : PE X e te) : PO X (some e) (tPart te) := by
  intro pins s σ H Q I hw
  rw [evalPart_some]
  refine thn (h pins s σ H _ I hw) fun u s1 ⟨x, H1, I1, r1, q1⟩ => ?_
  obtain ⟨i, rfl, q⟩ := q1
  obtain ⟨t, rfl⟩ := r1
  exact ⟨some i, H1, I1, .int i t, q⟩

/-- what a slice of a value is, by values: the slice object stands at sl -/
def SlR (X : Cx) (r : V → Option Int → Option Int → Hp → VK → Prop) : Prop :=
  ∀ (pins : List (Addr × Obj)) (s : Shared) (σ : St) (H : Hp) (x : V) (v vl vu : Value) (lo hi : Option Int) (sl : Addr) (Q : VK), Inv X pins σ H s → RelV x v → s.heap.IsSliceOf sl vl vu .none → IsPart vl lo → IsPart vu hi → r x lo hi H Q →
    ∃ T id, typeLookup (.type T) "__getitem__" = pure (some (.builtin id)) ∧ s.TypeIs v T ∧ wpAny (model X.prog X.w) X.A (getItem v (.ref sl)) (EP X pins σ Q) X.xe s
def tSl (r : V → Option Int → Option Int → Hp → VK → Prop) (te : TE) (tl th : TO) : TE := fun σ H Q => te σ H fun x H1 => tl σ H1 fun l H2 => th σ H2 fun u H3 => r x l u H3 Q
/-- a[lo:hi], any a -/
theorem pe_slice {r : V → Option Int → Option Int → Hp → VK → Prop} (hr : SlR X r) (he : PE X e te) (hl : PO X lo tl) (hu : PO X hi th) : PE X (.Subscript e (.Slice lo hi none p2) pos) (tSl r te tl th) := by
  intro pins s σ H Q I h
  refine Subscript_ (thn (he pins s σ H _ I h) fun v s1 ⟨x, H1, I1, r1, q1⟩ => ?_)
  refine wpAny_Slice (thn (hl pins s1 σ H1 _ I1 q1) fun vl s2 ⟨l, H2, I2, pl, q2⟩ => thn (hu pins s2 σ H2 _ I2 q2) fun vu s3 ⟨u, H3, I3, pu, q3⟩ => ?_)
  rw [evalPart_none]
  refine wpAny_pure ?_
  have I4 : Inv X pins σ H3 { s3 with heap := s3.heap.push { cls := .type "slice", data := .fields #[vl, vu, .none] } } := I3.kept (t' := s3.toks) fun b ob q => Heap.get?_push_of_some _ q
  obtain ⟨T, id, hT, ht, hg⟩ := hr pins { s3 with heap := s3.heap.push { cls := .type "slice", data := .fields #[vl, vu, .none] } } σ H3 x v vl vu l u s3.heap.objs.size Q I4 r1 (Heap.IsSliceOf.new ..) pl pu q3
  show wpAny (model X.prog X.w) X.A (subscriptTail e (.Slice lo hi none p2) v (.ref s3.heap.objs.size)) (EP X pins σ Q) X.xe { s3 with heap := s3.heap.push { cls := .type "slice", data := .fields #[vl, vu, .none] } }
  exact tail_any (ops := [.ref s3.heap.objs.size, v]) ht hT hg (by with_unfolding_all rfl)

/-- the items of xs[lo:hi] -/
def cutV (xs : List V) (lo hi : Option Int) : List V := (xs.drop (HT.sIx xs.length 0 lo)).take (HT.sIx xs.length xs.length hi - HT.sIx xs.length 0 lo)
theorem cutV_length (xs : List V) (lo hi : Option Int) : (cutV xs lo hi).length ≤ xs.length := by
  unfold cutV
  rw [List.length_take, List.length_drop]
  omega
/-- t[lo:hi], not the whole of it (the whole would be t itself) -/
def rSlT (K : PySem.W.Frag) : V → Option Int → Option Int → Hp → VK → Prop := fun x lo hi H Q => ∃ a xs, x = .ref a ∧ SqT K H a xs ∧
  ¬ (HT.sIx xs.length 0 lo = 0 ∧ HT.sIx xs.length xs.length hi = xs.length) ∧ ∀ p, H p = none → Q (.ref p) (upd H p (.tup (cutV xs lo hi)))
/-! ### t < u, t + u -/
def rLtT (K : PySem.W.Frag) : R2 := fun x y H Q => ∃ a b ns ms, x = .ref a ∧ y = .ref b ∧ SqT K H a (ns.map V.int) ∧ SqT K H b (ms.map V.int) ∧ Q (.bl (HT.lexLt ns ms)) H
/-- t + u, t not empty: u empty gives t itself -/
def rCatT (K : PySem.W.Frag) : R2 := fun x y H Q => ∃ a b xs ys, x = .ref a ∧ y = .ref b ∧ SqT K H a xs ∧ SqT K H b ys ∧ xs ≠ [] ∧ xs.length + ys.length ≤ sizeLine ∧
  (ys = [] → Q (.ref a) H) ∧ (ys ≠ [] → ∀ p, H p = none → Q (.ref p) (upd H p (.tup (xs ++ ys))))
end
end L2

namespace L2
open PySem PySem.Spec PyProof.Rows

/-! ### places -/
/-- the place that an index of any sign means -/
def ixN (n : Nat) (i : Int) : Option Nat := if 0 ≤ i then (if i < n then some i.toNat else none) else if -(n : Int) ≤ i then some (i + n).toNat else none
def atI {α : Type} (xs : List α) (i : Int) : Option α := (ixN xs.length i).bind fun j => xs[j]?
theorem ixN_seq {n : Nat} {i : Int} {j : Nat} (h : ixN n i = some j) : seqIndex? i n = some j ∧ j < n ∧ -(n : Int) ≤ i ∧ i < n := by
  unfold ixN at h
  by_cases h0 : 0 ≤ i
  · rw [if_pos h0] at h
    by_cases h1 : i < n
    · rw [if_pos h1] at h
      have e : i.toNat = j := Option.some.inj h
      exact ⟨by rw [seqIndex_of h0 h1, e], by omega, by omega, h1⟩
    · rw [if_neg h1] at h; cases h
  · rw [if_neg h0] at h
    by_cases h1 : -(n : Int) ≤ i
    · rw [if_pos h1] at h
      have e : (i + n).toNat = j := Option.some.inj h
      exact ⟨by rw [seqIndex_neg (by omega) h1, e], by omega, h1, by omega⟩
    · rw [if_neg h1] at h; cases h
theorem atI_get {α : Type} {xs : List α} {i : Int} {v : α} (h : atI xs i = some v) : ∃ j, seqIndex? i xs.length = some j ∧ xs[j]? = some v ∧ j < xs.length ∧ -(xs.length : Int) ≤ i ∧ i < xs.length := by
  unfold atI at h
  cases e : ixN xs.length i with
  | none => rw [e] at h; cases h
  | some j =>
    rw [e] at h
    obtain ⟨h1, h2, h3, h4⟩ := ixN_seq e
    exact ⟨j, h1, h, h2, h3, h4⟩
theorem atI_nat {α : Type} {xs : List α} {j : Nat} {v : α} (h : xs[j]? = some v) : atI xs (j : Int) = some v := by
  have hj : j < xs.length := (List.getElem?_eq_some_iff.mp h).1
  have e : ixN xs.length (j : Int) = some j := by
    unfold ixN
    rw [if_pos (by omega), if_pos (by omega)]; simp
  unfold atI; rw [e]; exact h
/-! ### what may be subscripted -/
/-- what stands as an index of a plain subscript -/
def PlainIx (b : Expr) : Prop := ∀ o i, subscripted b false o i = operate [o, i] (getItem o i)
/-- a subscript by values -/
def IxR (X : Cx) (r : R2) : Prop :=
  ∀ (value slice : Expr) (pins : List (Addr × Obj)) (s : Shared) (σ : St) (H : Hp) (x y : V) (v u : Value) (Q : VK), Inv X pins σ H s → RelV x v → RelV y u → r x y H Q →
    subscripted slice false v u = operate [v, u] (getItem v u) → wpAny (model X.prog X.w) X.A (subscriptTail value slice v u) (EP X pins σ Q) X.xe s
/-- a call of a builtin's method by values: the receiver, the arguments -/
def MtR (X : Cx) (id : String) (r : V → List V → Hp → VK → Prop) : Prop :=
  ∀ (pins : List (Addr × Obj)) (s : Shared) (σ : St) (H : Hp) (x : V) (xs : List V) (v : Value) (us : List Value) (Q : VK), Inv X pins σ H s → RelV x v → Vals xs us → r x xs H Q →
    wpAny (model X.prog X.w) X.A (call (.builtin id) (v :: us)) (EP X pins σ Q) X.xe s
section
variable {X : Cx} {a b : Expr} {ta tb : TE} {pos : Pos}
/-- a[b] -/
theorem pe_ix {r : R2} (hr : IxR X r) (ha : PE X a ta) (hb : PE X b tb) (hs : PlainIx b) : PE X (.Subscript a b pos) (tOp r ta tb) := by
  intro pins s σ H Q I h
  exact Subscript_ (binT ha hb I h fun v u s2 x y H2 I2 rx ry q => hr a b pins s2 σ H2 x y v u Q I2 rx ry q (hs _ _))

def rIxL (K : PySem.W.Frag) : R2 := fun x y H Q => ∃ p xs i v, x = .ref p ∧ y = .int i ∧ SqL K H p xs ∧ atI xs i = some v ∧ Q v H
def rIxT (K : PySem.W.Frag) : R2 := fun x y H Q => ∃ p xs i v, x = .ref p ∧ y = .int i ∧ SqT K H p xs ∧ atI xs i = some v ∧ Q v H
def rIxS : R2 := fun x y H Q => ∃ z i c, x = .str z ∧ y = .int i ∧ z.length ≤ sizeLine ∧ atI z.cps.toList i = some c ∧ Q (.str ⟨#[c]⟩) H
theorem ix_list : IxR X (rIxL X.K) := by
  intro value slice pins s σ H x y v u Q I rx ry h hs
  obtain ⟨p, xs, i, z, rfl, rfl, hq, he, q⟩ := h
  cases rx
  obtain ⟨t, rfl⟩ := ry
  obtain ⟨its, r, pl, hz⟩ := I.list hq
  obtain ⟨j, h1, h2, h3, h4, h5⟩ := atI_get he
  obtain ⟨w, ew, rw'⟩ := r.get h2
  have hl := r.length
  have hn := line63
  have fin : EP X pins σ Q w s := ⟨z, H, I, rw', q⟩
  by_cases h0 : 0 ≤ i
  · have hj : i.toNat = j := by
      rw [seqIndex_of h0 h5] at h1
      exact Option.some.inj h1
    exact item_listR pl.isList h0 (by omega) (by rw [hj]; simpa using ew) fin hs
  · have hj : (i + (its.toArray.size : Int)).toNat = j := by
      rw [seqIndex_neg (by omega) h4] at h1
      rw [List.size_toArray, ← hl]
      exact Option.some.inj h1
    exact subscriptTail_builtinR (x := w) pl.isList.typeIs slot_list_getitem.lookup
      (wpAny_getItem_list_neg (Q := fun r s' => r = w ∧ EP X pins σ Q r s') pl.isList (by omega) (by rw [List.size_toArray] <;> omega) (by omega) (by rw [hj]; simpa using ew) ⟨rfl, fin⟩) hs
theorem ix_tup : IxR X (rIxT X.K) := by
  intro value slice pins s σ H x y v u Q I rx ry h hs
  obtain ⟨p, xs, i, z, rfl, rfl, hq, he, q⟩ := h
  cases rx
  obtain ⟨t, rfl⟩ := ry
  obtain ⟨its, r, pl, hz⟩ := I.tuple hq
  obtain ⟨j, h1, h2, h3, h4, h5⟩ := atI_get he
  obtain ⟨w, ew, rw'⟩ := r.get h2
  have hl := r.length
  have hn := line63
  have fin : EP X pins σ Q w s := ⟨z, H, I, rw', q⟩
  exact subscriptTail_builtinR (x := w) pl.typeIs slot_tuple_getitem.lookup
    (getItem_tuple (j := j) (Q := fun r s' => r = w ∧ EP X pins σ Q r s') pl (by omega) (by omega) (by rw [List.size_toArray, ← hl]; exact h1) (by simpa using ew) ⟨rfl, fin⟩) hs
/-- list, tuple or str -/
def rIx (K : PySem.W.Frag) : R2 := fun x y H Q => rIxL K x y H Q ∨ rIxT K x y H Q ∨ rIxS x y H Q
/-! ### xs[i] = v, any sign -/
def rSetL : V → V → V → Hp → (Hp → Prop) → Prop := fun o i v H Q => ∃ p xs k j, o = .ref p ∧ i = .int k ∧ H p = some (.lst xs) ∧ ixN xs.length k = some j ∧ Q (upd H p (.lst (xs.set j v)))
/-! ### slices -/
theorem slice_bounds (lo hi : Option Int) (n : Nat) : (sliceBounds lo hi none n).1 = ((HT.sIx n 0 lo : Nat) : Int) ∧ (sliceBounds lo hi none n).2.1 = ((HT.sIx n n hi : Nat) : Int) ∧ (sliceBounds lo hi none n).2.2 = 1 := by
  refine ⟨?_, ?_, rfl⟩
  · cases lo with
    | none => simp [sliceBounds, HT.sIx]
    | some i =>
      simp only [sliceBounds, HT.sIx, Option.getD_none, show (1 : Int) > 0 by decide, if_true]
      by_cases h : i < 0
      · simp only [h, if_true] <;> omega
      · simp only [h, if_false] <;> omega
  · cases hi with
    | none => simp [sliceBounds, HT.sIx]
    | some i =>
      simp only [sliceBounds, HT.sIx, Option.getD_none, show (1 : Int) > 0 by decide, if_true]
      by_cases h : i < 0
      · simp only [h, if_true] <;> omega
      · simp only [h, if_false] <;> omega
theorem slicePick_cut (its : List Value) (lo hi : Option Int) : slicePick its.toArray lo hi none = ((its.drop (HT.sIx its.length 0 lo)).take (HT.sIx its.length its.length hi - HT.sIx its.length 0 lo)).toArray := by
  obtain ⟨h1, h2, h3⟩ := slice_bounds lo hi its.toArray.size
  unfold slicePick
  rw [h1, h2, h3]
  simp only [sliceRange_one, pick_run, List.size_toArray] <;> rfl
/-- xs[lo:hi] of a list: a new list -/
def rSlL (K : PySem.W.Frag) : V → Option Int → Option Int → Hp → VK → Prop := fun x lo hi H Q => ∃ a xs, x = .ref a ∧ SqL K H a xs ∧ ∀ p, H p = none → Q (.ref p) (upd H p (.lst (cutV xs lo hi)))
theorem sl_list : SlR X (rSlL X.K) := by
  intro pins s σ H x v vl vu lo hi sl Q I rx hs pl pu h
  obtain ⟨a, xs, rfl, hx, q⟩ := h
  cases rx
  obtain ⟨its, r, ht, hz⟩ := I.list hx
  have hlen := r.length
  refine ⟨"list", _, slot_list_getitem.lookup, ht.isList.typeIs, ?_⟩
  refine wpAny_getItem_list_slice ht.isList hs pl pu .none (by simp) ?_ (by rw [List.size_toArray] <;> omega)
  rw [slicePick_cut, ← hlen]
  refine ⟨.ref s.heap.objs.size, _, I.laid (t' := s.toks) (o := .lst (cutV xs lo hi)) (fun b ob q => Heap.get?_push_of_some _ q) (Nat.le_refl _) ?_, rfl, q _ (I.hok.fresh (Nat.le_refl _))⟩
  exact ⟨Nat.le_trans (cutV_length xs lo hi) hz, _, 0, (r.drop (HT.sIx xs.length 0 lo)).take (HT.sIx xs.length xs.length hi - HT.sIx xs.length 0 lo), Heap.get?_push_size _ rfl⟩

/-! ### in, not in: flat items -/
def flatV : V → Bool
  | .non => true
  | .bl _ => true
  | .int _ => true
  | .str _ => true
  | _ => false
/-- == of flat values -/
def eqV : V → V → Bool
  | .non, .non => true
  | .bl a, .bl b => a == b
  | .bl a, .int b => (if a then 1 else 0) == b
  | .int a, .bl b => a == (if b then 1 else 0)
  | .int a, .int b => a == b
  | .str a, .str b => a == b
  | _, _ => false
theorem eqAt_V {A : Around} {s : Shared} {y x : V} {u v : Value} (ry : RelV y u) (rx : RelV x v) (fy : flatV y = true) (fx : flatV x = true) : SeqAt.EqAt A s u v (eqV y x) := by
  cases y with
  | non =>
    cases ry
    cases x with
    | non => cases rx; exact SeqAt.EqAt.same _
    | bl b => cases rx; exact SeqAt.EqAt.none_bool b
    | int b => obtain ⟨t, rfl⟩ := rx; exact SeqAt.EqAt.none_int b t
    | str b => obtain ⟨t, rfl⟩ := rx; exact SeqAt.EqAt.none_str b t
    | _ => exact absurd (show false = true from fx) Bool.false_ne_true
  | bl a =>
    cases ry
    cases x with
    | non => cases rx; exact SeqAt.EqAt.bool_none a
    | bl b => cases rx; exact SeqAt.EqAt.bool_bool a b
    | int b => obtain ⟨t, rfl⟩ := rx; exact SeqAt.EqAt.bool_int a b t
    | str b => obtain ⟨t, rfl⟩ := rx; exact SeqAt.EqAt.bool_str a b t
    | _ => exact absurd (show false = true from fx) Bool.false_ne_true
  | int a =>
    obtain ⟨t', rfl⟩ := ry
    cases x with
    | non => cases rx; exact SeqAt.EqAt.int_none a t'
    | bl b => cases rx; exact SeqAt.EqAt.int_bool a t' b
    | int b => obtain ⟨t, rfl⟩ := rx; exact SeqAt.EqAt.int_int a t' b t
    | str b => obtain ⟨t, rfl⟩ := rx; exact SeqAt.EqAt.int_str a t' b t
    | _ => exact absurd (show false = true from fx) Bool.false_ne_true
  | str a =>
    obtain ⟨t', rfl⟩ := ry
    cases x with
    | non => cases rx; exact SeqAt.EqAt.str_none a t'
    | bl b => cases rx; exact SeqAt.EqAt.str_bool a t' b
    | int b => obtain ⟨t, rfl⟩ := rx; exact SeqAt.EqAt.str_int a t' b t
    | str b => obtain ⟨t, rfl⟩ := rx; exact SeqAt.EqAt.str_str a t' b t
    | _ => exact absurd (show false = true from fx) Bool.false_ne_true
  | _ => exact absurd (show false = true from fy) Bool.false_ne_true
/-- the items' answers, read off the values (a value's own answer does not lean on its token) -/
def eqU (x : V) (u : Value) : Bool := match u with
  | .none => eqV .non x
  | .bool b => eqV (.bl b) x
  | .int i _ => eqV (.int i) x
  | .str z _ => eqV (.str z) x
  | _ => false
theorem eqU_of {x y : V} {u : Value} (r : RelV y u) (f : flatV y = true) : eqU x u = eqV y x := by
  cases y with
  | non => cases r; rfl
  | bl b => cases r; rfl
  | int i => obtain ⟨t, rfl⟩ := r; rfl
  | str z => obtain ⟨t, rfl⟩ := r; rfl
  | _ => exact absurd (show false = true from f) Bool.false_ne_true
theorem any_eqU {x : V} : ∀ {xs : List V} {us : List Value}, Vals xs us → xs.all flatV = true → us.any (eqU x) = xs.any fun y => eqV y x
  | _, _, .nil, _ => rfl
  | y :: xs, u :: us, .cons r t, f => by
    rw [List.all_cons, Bool.and_eq_true] at f
    rw [List.any_cons, List.any_cons, eqU_of r f.1, any_eqU t f.2]
theorem mem_eqAt {A : Around} {s : Shared} {x : V} {v : Value} (rx : RelV x v) (fx : flatV x = true) : ∀ {xs : List V} {us : List Value}, Vals xs us → xs.all flatV = true → ∀ u ∈ us, SeqAt.EqAt A s u v (eqU x u)
  | _, _, .nil, _ => fun u hu => by cases hu
  | y :: xs, u :: us, .cons r t, f => fun u' hu => by
    rw [List.all_cons, Bool.and_eq_true] at f
    rcases List.mem_cons.mp hu with rfl | hu
    · rw [eqU_of r f.1]; exact eqAt_V r rx f.1 fx
    · exact mem_eqAt rx fx t f.2 u' hu
def inV (x : V) (xs : List V) : Bool := xs.any fun y => eqV y x
/-- x in a list or tuple of flat items -/
def rIn (K : PySem.W.Frag) (neg : Bool) : R2 := fun x y H Q => ∃ p xs, y = .ref p ∧ (SqL K H p xs ∨ SqT K H p xs) ∧ flatV x = true ∧ xs.all flatV = true ∧ Q (.bl (if neg then !inV x xs else inV x xs)) H
theorem op_in_seq : OpR X (compareOp .In) (rIn X.K false) := by
  intro pins s σ H x y v u Q I rx ry h
  obtain ⟨p, xs, rfl, hq, fx, fs, q⟩ := h
  cases ry
  rcases hq with hq | hq
  · obtain ⟨its, r, pl, hz⟩ := I.list hq
    refine SeqAt.in_listAt (eqU x) pl.isList (fun w hw => mem_eqAt rx fx r fs w (by simpa using hw)) ⟨.bl _, H, I, rfl, ?_⟩
    rw [show its.toArray.any (eqU x) = its.any (eqU x) by simp, any_eqU r fs]
    exact q
  · obtain ⟨its, r, pl, hz⟩ := I.tuple hq
    refine SeqAt.in_tupleAt (eqU x) pl (fun w hw => mem_eqAt rx fx r fs w (by simpa using hw)) ⟨.bl _, H, I, rfl, ?_⟩
    rw [show its.toArray.any (eqU x) = its.any (eqU x) by simp, any_eqU r fs]
    exact q
/-! ### len, list(x), tuple(x) of any list or tuple that is read -/
theorem call_len_seq : CallR X (.builtin "len") (fun xs H Q => ∃ p ys, xs = [.ref p] ∧ (SqL X.K H p ys ∨ SqT X.K H p ys) ∧ Q (.int ys.length) H) := by
  intro pins s σ H xs us Q I r h
  obtain ⟨p, ys, rfl, hq, q⟩ := h
  obtain ⟨u, rfl, rx⟩ := vals1 r
  cases rx
  have hn := line63
  rcases hq with hq | hq
  · obtain ⟨its, r', pl, hz⟩ := I.list hq
    have hlen := r'.length
    exact Calls.call_len_list pl.isList (by simp only [List.size_toArray] <;> omega) ⟨.int ys.length, H, I.tok _, ⟨s.toks + 1, by rw [List.size_toArray, hlen]⟩, q⟩
  · obtain ⟨its, r', pl, hz⟩ := I.tuple hq
    have hlen := r'.length
    exact len_tuple pl (by simp only [List.size_toArray] <;> omega) ⟨.int ys.length, H, I.tok _, ⟨s.toks + 1, by rw [List.size_toArray, hlen]⟩, q⟩
theorem call_len_str : CallR X (.builtin "len") (fun xs H Q => ∃ z, xs = [.str z] ∧ z.length ≤ sizeLine ∧ Q (.int z.length) H) := by
  intro pins s σ H xs us Q I r h
  obtain ⟨z, rfl, hz, q⟩ := h
  obtain ⟨u, rfl, t, rfl⟩ := vals1 r
  have hn := line63
  exact len_str (by omega) ⟨.int z.length, H, I.tok _, ⟨_, rfl⟩, q⟩
/-! ### the call of a builtin's method: o.m(..) -/
/-- the value is of that builtin type -/
def tyV (K : PySem.W.Frag) (T : String) (x : V) (H : Hp) : Prop := match x with
  | .str _ => T = "str"
  | .int _ => T = "int"
  | .ref p => (T = "list" ∧ ∃ xs, SqL K H p xs) ∨ (T = "tuple" ∧ ∃ o, K.lookup p = some o ∧ o.cls = .type "tuple" ∧ o.dict = none) ∨
      (T = "dict" ∧ ((∃ kvs, H p = some (.dK kvs)) ∨ ∃ kvs, H p = some (.dT kvs))) ∨ (T = "set" ∧ ∃ S n, H p = some (.set S n))
  | _ => False
theorem tyV_is {pins : List (Addr × Obj)} {σ : St} {H : Hp} {s : Shared} {T : String} {x : V} {v : Value} (I : Inv X pins σ H s) (r : RelV x v) (ty : tyV X.K T x H) :
    s.TypeIs v T ∧ ∀ a, v = .ref a → ∃ ob, s.heap.get? a = some ob ∧ ob.dict = none := by
  cases x with
  | str z =>
    obtain ⟨t, rfl⟩ := r
    cases (show T = "str" from ty)
    exact ⟨typeIs_str s z t, fun _ e => nomatch e⟩
  | int i =>
    obtain ⟨t, rfl⟩ := r
    cases (show T = "int" from ty)
    exact ⟨typeIs_int s i t, fun _ e => nomatch e⟩
  | ref p =>
    cases r
    rcases ty with ⟨rfl, xs, hq⟩ | ⟨rfl, o, hk, hc, hd⟩ | ⟨rfl, hk⟩ | ⟨rfl, S, n, hk⟩
    · obtain ⟨its, _, pl, _⟩ := I.list hq
      refine ⟨pl.isList.typeIs, fun a e => ?_⟩
      cases e
      obtain ⟨o, n, e, c, hd, _⟩ := pl
      exact ⟨o, e, hd⟩
    · refine ⟨⟨o, I.kIn p o hk, hc⟩, fun a e => ?_⟩
      cases e
      exact ⟨o, I.kIn _ o hk, hd⟩
    · have z : ∃ o, s.heap.get? p = some o ∧ o.ExactDict := by
        rcases hk with ⟨kvs, hk⟩ | ⟨kvs, hk⟩
        · obtain ⟨_, _, _, _, o, _, _, e, ex, _⟩ := I.hok p _ hk
          exact ⟨o, e, ex⟩
        · obtain ⟨_, _, _, _, o, _, _, e, ex, _⟩ := I.hok p _ hk
          exact ⟨o, e, ex⟩
      obtain ⟨o, e, ex⟩ := z
      refine ⟨⟨o, e, ex.1⟩, fun a e2 => ?_⟩
      cases e2
      exact ⟨o, e, ex.2.1⟩
    · obtain ⟨o, _, _, _, e, ex, _⟩ := I.hok p _ hk
      refine ⟨⟨o, e, ex.1⟩, fun a e2 => ?_⟩
      cases e2
      exact ⟨o, e, ex.2.1⟩
  | _ => exact False.elim ty
def tBM0 (K : PySem.W.Frag) (T : String) (r : V → List V → Hp → VK → Prop) (to : TE) : TE := fun σ H Q => to σ H fun x H1 => tyV K T x H1 ∧ r x [] H1 Q
def tBM (K : PySem.W.Frag) (T : String) (r : V → List V → Hp → VK → Prop) (to : TE) (t : TA) : TE := fun σ H Q => to σ H fun x H1 => tyV K T x H1 ∧ t σ H1 fun xs H2 => r x xs H2 Q
variable {o e : Expr} {es : List Expr} {to : TE} {t : TA} {name : Str} {apos cpos : Pos} {T id : String} {r : V → List V → Hp → VK → Prop}
theorem pe_bm (pa : PlainAttrs T) (slot : Slot T name id) (hty : typeOf (.builtin id) = pure (.type "method_descriptor")) (hm : MtR X id r) (ho : PE X o to) (ha : PA X (e :: es) t)
    (hbase : attributeBase o name X.env (eval o X.env) = eval o X.env := by rfl)
    (hfew : ((backTo cpos (starEach (e :: es) X.env)).all (fun x => !x.1) && (backToKw cpos (keywordEach [] X.env)).all (fun x => x.1.isSome)
      && decide ((e :: es).length + ([] : List Keyword).length + (if ([] : List Keyword).isEmpty then 0 else 1) < 30)) = true := by rfl)
    (hline : (apos.endLine == cpos.line) = true := by rfl) (hs : starEach (e :: es) X.env = (false, eval e X.env) :: starEach es X.env := by rfl) (hplain : (backTo cpos (starEach es X.env)).any (·.1) = false := by rfl) :
    PE X (.Call (.Attribute o name apos) (e :: es) [] cpos) (tBM X.K T r to t) := by
  intro pins s σ H Q I h
  refine wpAny_Call_method_late hbase hfew hline rfl (thn (ho pins s σ H _ I h) fun v s1 ⟨x, H1, I1, r1, ty, q1⟩ => ?_)
  obtain ⟨h1, h2⟩ := tyV_is I1 r1 ty
  refine ⟨T, id, pa, slot, hty, h1, h2, ?_⟩
  have hA := ha cpos pins s1 σ H1 _ I1 q1
  rw [hs] at hA ⊢
  refine Calls.callWith_builtin (by show (false || (backTo cpos (starEach es X.env)).any (·.1)) = false; rw [hplain] <;> rfl) (Calls.evalArgs_plain ?_)
  exact thn hA fun us s2 ⟨vs, H2, I2, r2, q2⟩ => hm pins s2 σ H2 x vs v us Q I2 r1 r2 q2
/- xs.append(e), list.index on a module's tuple .. are MtR facts of 06m -/
end
end L2

namespace L2
open PySem PySem.Spec PyProof.Rows

def MtM (X : Cx) (id : String) (r : V → List V → Hp → VK → Prop) : Prop :=
  ∀ (pins : List (Addr × Obj)) (s : Shared) (σ : St) (H : Hp) (x : V) (xs : List V) (v : Value) (us : List Value) (Q : VK), Inv X pins σ H s → RelV x v → Vals xs us → r x xs H Q →
    wpAny (model X.prog X.w) X.A (call (.builtin id) (v :: us)) (EP X pins σ Q) X.xe s

/-! ### lists of values -/
theorem Vals.one : ∀ {x : V} {us : List Value}, Vals [x] us → ∃ u, us = [u] ∧ RelV x u
  | _, _, .cons r .nil => ⟨_, rfl, r⟩
section
variable {X : Cx} {pins : List (Addr × Obj)} {σ : St} {H : Hp} {s : Shared} {l b : Addr} {xs ys zs : List V}

/-! ### the two steps: a tracked list is rewritten, a new list is laid -/
theorem Inv.lset {its its' : List Value} {n : Nat} {f : Array Value → Array Value} {t' : Nat} (I : Inv X pins σ H s) (hH : H l = some (.lst xs))
    (e : s.heap.get? l = some { cls := .type "list", data := .seq its.toArray n }) (hf : f its.toArray = its'.toArray) (hv : Vals ys its') (hz : ys.length ≤ sizeLine) :
    Inv X pins σ (upd H l (.lst ys)) { s with heap := s.heap.update l (Obj.mapSeq f), toks := t' } := by
  have q := PySem.IsL.update e f
  rw [hf] at q
  refine I.write (x := l) (e := l) (by rw [hH]; exact trivial) (.inl rfl) (fun b' u hb hu => (Heap.get?_update_other s.heap (Obj.mapSeq f) (Ne.symm hb)).trans hu) ⟨_, q⟩ ?_
  exact ⟨hz, its', _, hv, q⟩
theorem Inv.lnew {its : List Value} {t' : Nat} (I : Inv X pins σ H s) (hv : Vals ys its) (hz : ys.length ≤ sizeLine) :
    Inv X pins σ (upd H s.heap.objs.size (.lst ys)) { s with heap := s.heap.push { cls := .type "list", data := .seq its.toArray }, toks := t' } :=
  I.laid (fun _ _ q => Heap.get?_push_of_some _ q) (Nat.le_refl _) ⟨hz, its, 0, hv, Heap.get?_push_size _ rfl⟩
theorem Inv.fresh (I : Inv X pins σ H s) : H s.heap.objs.size = none := I.hok.fresh (Nat.le_refl _)
theorem Inv.lstM (I : Inv X pins σ H s) (hH : H l = some (.lst xs)) : xs.length ≤ sizeLine ∧ ∃ (its : List Value) (n : Nat), Vals xs its ∧ xs.length = its.length ∧ s.heap.get? l = some { cls := .type "list", data := .seq its.toArray n } := by
  obtain ⟨z, its, n, r, e⟩ := I.hok l _ hH
  exact ⟨z, its, n, r, r.length, e⟩

end

section
variable {X : Cx}

/-! ### methods -/
def rAppend : V → List V → Hp → VK → Prop := fun x vs H Q => ∃ l xs y, x = .ref l ∧ vs = [y] ∧ H l = some (.lst xs) ∧ xs.length < sizeLine ∧ Q .non (upd H l (.lst (xs ++ [y])))
theorem mt_append : MtM X "list.append" rAppend := by
  intro pins s σ H x vs v us Q I rx rv h
  obtain ⟨l, xs, y, rfl, rfl, hH, hz, q⟩ := h
  cases rx
  obtain ⟨u, rfl, ru⟩ := rv.one
  obtain ⟨z, its, n, r, hl, e⟩ := I.lstM hH
  refine call_meets F.slot_list_append ⟨_, e, rfl⟩ F.entry_list_append (F.args_list_append_2 _ _) (PySem.list_append l its.toArray n u (by rw [List.size_toArray]; omega)) ⟨e, ?_⟩
  refine ⟨.non, _, I.lset (its' := its ++ [u]) hH e (by simp) (r.append (.cons ru .nil)) ?_, rfl, q⟩
  rw [List.length_append, List.length_singleton]
  omega

def rExtend : V → List V → Hp → VK → Prop := fun x vs H Q => ∃ l b xs zs, x = .ref l ∧ vs = [.ref b] ∧ H l = some (.lst xs) ∧ H b = some (.lst zs) ∧ xs.length + zs.length ≤ sizeLine ∧ Q .non (upd H l (.lst (xs ++ zs)))
def rPop : V → List V → Hp → VK → Prop := fun x vs H Q => ∃ l xs y, x = .ref l ∧ vs = [] ∧ H l = some (.lst xs) ∧ xs[xs.length - 1]? = some y ∧ Q y (upd H l (.lst xs.dropLast))
def rPopAt : V → List V → Hp → VK → Prop := fun x vs H Q => ∃ l xs i k y, x = .ref l ∧ vs = [.int i] ∧ H l = some (.lst xs) ∧ -(2 ^ 63) ≤ i ∧ i < 2 ^ 63 ∧ seqIndex? i xs.length = some k ∧ xs[k]? = some y ∧ Q y (upd H l (.lst (xs.eraseIdx k)))
def rReverse : V → List V → Hp → VK → Prop := fun x vs H Q => ∃ l xs, x = .ref l ∧ vs = [] ∧ H l = some (.lst xs) ∧ Q .non (upd H l (.lst xs.reverse))
def rClear : V → List V → Hp → VK → Prop := fun x vs H Q => ∃ l xs, x = .ref l ∧ vs = [] ∧ H l = some (.lst xs) ∧ Q .non (upd H l (.lst []))
/-! ### list + list, list += list, list * int -/
def rCat : R2 := fun x y H Q => ∃ l b xs zs, x = .ref l ∧ y = .ref b ∧ H l = some (.lst xs) ∧ H b = some (.lst zs) ∧ xs.length + zs.length ≤ sizeLine ∧ ∀ p, H p = none → Q (.ref p) (upd H p (.lst (xs ++ zs)))
/-- a list times an int (a negative one is nothing) -/
def rRep : R2 := fun x y H Q => ∃ l k xs, x = .ref l ∧ y = .int k ∧ H l = some (.lst xs) ∧ -(2 ^ 63) ≤ k ∧ k < 2 ^ 63 ∧ xs.length * k.toNat ≤ sizeLine ∧
  ∀ p, H p = none → Q (.ref p) (upd H p (.lst (List.replicate k.toNat xs).flatten))
/-! ### del xs[i] -/
end

/-! ### xs[a:b] = ys -/
section
variable {prog : Program} {w : World} {A : Around} {E : Value → Shared → Prop} {s : Shared}
end

section
variable {X : Cx}
end
end L2

namespace L2
open PySem PySem.Spec PyProof.Rows

/-! ### the library's walks over a list of ints, kept objects alone -/
section
variable {prog : Program} {w : World} {A : Around} {E : Value → Shared → Prop} {s : Shared} {l : Addr} {its : List Value} {ns : List Int} {Q : Value → Shared → Prop}
end

/-! ### the calls, by values (CallR of 03t; MtR of 06l) -/
section
variable {X : Cx}
/-- sum(xs) of a list of ints -/
def rSum (K : PySem.W.Frag) : List V → Hp → VK → Prop := fun vs H Q => ∃ (a : Addr) (ns : List Int), vs = [V.ref a] ∧ SqL K H a (ns.map V.int) ∧ Q (.int ns.sum) H
/-- max(xs), min(xs) of a list of ints -/
def rMax (K : PySem.W.Frag) : List V → Hp → VK → Prop := fun vs H Q => ∃ (a : Addr) (ns : List Int), vs = [V.ref a] ∧ SqL K H a (ns.map V.int) ∧ 0 < ns.length ∧ ∀ m, m ∈ ns → (∀ y, y ∈ ns → y ≤ m) → Q (.int m) H
def rMin (K : PySem.W.Frag) : List V → Hp → VK → Prop := fun vs H Q => ∃ (a : Addr) (ns : List Int), vs = [V.ref a] ∧ SqL K H a (ns.map V.int) ∧ 0 < ns.length ∧ ∀ m, m ∈ ns → (∀ y, y ∈ ns → m ≤ y) → Q (.int m) H
/-! sorted, sort (fewer than 64 items: the library's own bound) -/
def rSorted (K : PySem.W.Frag) : List V → Hp → VK → Prop := fun vs H Q => ∃ (a : Addr) (ns : List Int), vs = [V.ref a] ∧ SqL K H a (ns.map V.int) ∧ ns.length < 64 ∧
  ∀ (ns' : List Int) (p : Addr), ns'.Perm ns → ns'.Pairwise (· ≤ ·) → H p = none → Q (.ref p) (upd H p (.lst (ns'.map V.int)))
def rSortedS (K : PySem.W.Frag) : List V → Hp → VK → Prop := fun vs H Q => ∃ (a : Addr) (xs : List Str), vs = [V.ref a] ∧ SqL K H a (xs.map V.str) ∧ xs.length < 64 ∧
  ∀ (ys : List Str) (p : Addr), ys.Perm xs → sortedS ys = true → H p = none → Q (.ref p) (upd H p (.lst (ys.map V.str)))
/-- xs.sort(), ints -/
def rSort : V → List V → Hp → VK → Prop := fun x xs H Q => ∃ (a : Addr) (ns : List Int), x = V.ref a ∧ xs = [] ∧ H a = some (.lst (ns.map V.int)) ∧ ns.length < 64 ∧
  ∀ ns' : List Int, ns'.Perm ns → ns'.Pairwise (· ≤ ·) → Q .non (upd H a (.lst (ns'.map V.int)))
end

/-! ### list.index, flat items -/
section
variable {X : Cx}
def rIndex (K : PySem.W.Frag) : V → List V → Hp → VK → Prop := fun x xs H Q => ∃ (a : Addr) (ys : List V) (y : V) (j : Nat) (z : V), x = V.ref a ∧ xs = [y] ∧ SqL K H a ys ∧ flatV y = true ∧ ys.all flatV = true ∧ ys[j]? = some z ∧ eqV z y = true ∧
  (∀ (m : Nat) (z' : V), m < j → ys[m]? = some z' → eqV z' y = false) ∧ Q (.int (j : Nat)) H
end

/-! ### type(x) of an own instance; is, is not of a module's class -/
section
variable {X : Cx}
end

/-! ### any(xs), all(xs) of a list of bools -/
section
variable {X : Cx}
def rAny (K : PySem.W.Frag) : List V → Hp → VK → Prop := fun vs H Q => ∃ (a : Addr) (bs : List Bool), vs = [V.ref a] ∧ SqL K H a (bs.map V.bl) ∧ Q (.bl (bs.any id)) H
def rAll (K : PySem.W.Frag) : List V → Hp → VK → Prop := fun vs H Q => ∃ (a : Addr) (bs : List Bool), vs = [V.ref a] ∧ SqL K H a (bs.map V.bl) ∧ Q (.bl (bs.all id)) H
end

/-! ### == and != of data at any depth: none, bools, ints, texts, lists, tuples -/
mutual
inductive Dp (K : PySem.W.Frag) (H : Hp) : V → PyData → Prop
  | non : Dp K H .non .none
  | bl (b : Bool) : Dp K H (.bl b) (.bool b)
  | int (i : Int) : Dp K H (.int i) (.int i)
  | str (x : Str) : Dp K H (.str x) (.str x)
  | lst {a : Addr} {xs : List V} {ds : List PyData} : SqL K H a xs → DpAll K H xs ds → Dp K H (.ref a) (.list ds)
  | tup {a : Addr} {xs : List V} {ds : List PyData} : SqT K H a xs → DpAll K H xs ds → Dp K H (.ref a) (.tuple ds)
inductive DpAll (K : PySem.W.Frag) (H : Hp) : List V → List PyData → Prop
  | nil : DpAll K H [] []
  | cons {v : V} {vs : List V} {d : PyData} {ds : List PyData} : Dp K H v d → DpAll K H vs ds → DpAll K H (v :: vs) (d :: ds)
end
section
variable {X : Cx} {pins : List (Addr × Obj)} {σ : St} {H : Hp} {s : Shared}
mutual
theorem Dp.reads (I : Inv X pins σ H s) : ∀ (d : PyData) (v : V) (u : Value), Dp X.K H v d → RelV v u → ∃ as, Reads s.heap u d as
  | .none, _, _, h, r => by
    cases h
    cases r
    exact ⟨_, Reads.none⟩
  | .bool b, _, _, h, r => by
    cases h
    cases r
    exact ⟨_, Reads.bool b⟩
  | .int i, _, _, h, r => by
    cases h
    obtain ⟨t, rfl⟩ := r
    exact ⟨_, Reads.int i t⟩
  | .str x, _, _, h, r => by
    cases h
    obtain ⟨t, rfl⟩ := r
    exact ⟨_, Reads.str x t⟩
  | .list ds, _, _, h, r => by
    cases h with
    | lst hs ha =>
      cases r
      obtain ⟨its, rv, ⟨o, n, ho, hc, _, hd⟩, _⟩ := I.list hs
      obtain ⟨as, hr⟩ := Dp.readsAll I ds _ its ha rv
      exact ⟨_, Reads.list ho hc hd hr⟩
  | .tuple ds, _, _, h, r => by
    cases h with
    | tup hs ha =>
      cases r
      obtain ⟨its, rv, ⟨o, ho, hc, n, hd⟩, _⟩ := I.tuple hs
      obtain ⟨as, hr⟩ := Dp.readsAll I ds _ its ha rv
      exact ⟨_, Reads.tuple ho hc hd hr⟩
  | .dict _, _, _, h, _ => by cases h
theorem Dp.readsAll (I : Inv X pins σ H s) : ∀ (ds : List PyData) (vs : List V) (us : List Value), DpAll X.K H vs ds → Vals vs us → ∃ as, ReadsAll s.heap us ds as
  | [], _, _, h, r => by
    cases h
    cases r
    exact ⟨_, ReadsAll.nil⟩
  | d :: ds, _, _, h, r => by
    cases h with
    | cons h1 h2 =>
      cases r with
      | cons r1 r2 =>
        obtain ⟨as, q1⟩ := Dp.reads I d _ _ h1 r1
        obtain ⟨bs, q2⟩ := Dp.readsAll I ds _ _ h2 r2
        exact ⟨_, ReadsAll.cons q1 q2⟩
end
end
section
variable {X : Cx}
def rEqD (K : PySem.W.Frag) : R2 := fun x y H Q => ∃ d e, Dp K H x d ∧ Dp K H y e ∧ SeqAt.shaped d = true ∧ SeqAt.shaped e = true ∧ Q (.bl (PyData.eqv d e)) H
def rNeD (K : PySem.W.Frag) : R2 := fun x y H Q => ∃ d e, Dp K H x d ∧ Dp K H y e ∧ SeqAt.shaped d = true ∧ SeqAt.shaped e = true ∧ Q (.bl (!PyData.eqv d e)) H
theorem op_eqD (hu : X.A.units + 64 < cLine) : OpR X (compareOp .Eq) (rEqD X.K) := by
  intro pins s σ H x y v u Q I rx ry h
  obtain ⟨d, e, hd, he, sd, se, q⟩ := h
  obtain ⟨as, r1⟩ := Dp.reads I d x v hd rx
  obtain ⟨bs, r2⟩ := Dp.reads I e y u he ry
  exact SeqAt.compareEq_shaped r1 r2 sd se hu ⟨.bl _, H, I, rfl, q⟩
theorem op_neD (hu : X.A.units + 64 < cLine) : OpR X (compareOp .NotEq) (rNeD X.K) := by
  intro pins s σ H x y v u Q I rx ry h
  obtain ⟨d, e, hd, he, sd, se, q⟩ := h
  obtain ⟨as, r1⟩ := Dp.reads I d x v hd rx
  obtain ⟨bs, r2⟩ := Dp.reads I e y u he ry
  exact SeqAt.compareNe_shaped r1 r2 sd se hu ⟨.bl _, H, I, rfl, q⟩
end
end L2

namespace L2
open PySem PySem.Spec PyProof.Rows
abbrev CellAt (h : Heap) (c : Addr) (v : Option Value) : Prop := h.IsCell c v
def relS (scope sc : Scope) : Scope :=
  { scope with names := scope.names.map fun (n, k) => if (k == .free && sc.kind == .function && sc.names.lookup n == some .cell) then (n, .cell) else (n, k) }

def cloFrom (cells : List (Str × Addr)) : List (Str × NameKind) → List (Str × Addr) → List (Str × Addr)
  | [], acc => acc
  | (n, k) :: r, acc => if k == .free then cloFrom cells r ((n, (cells.lookup n).getD 0) :: acc) else cloFrom cells r acc

theorem closure_loop (env : Env) (f : Str × NameKind → List (Str × Addr) → Sem (ForInStep (List (Str × Addr))))
    (hf : ∀ n k c, f (n, k) c = if k == .free then (do let a ← cellOf env n; pure (.yield ((n, a) :: c))) else pure (.yield c)) :
    ∀ (names : List (Str × NameKind)) (acc : List (Str × Addr)), (∀ y ∈ names, y.2 = .free → ∃ c, env.cells.lookup y.1 = some c) → forIn names acc f = pure (cloFrom env.cells names acc)
  | [], acc, _ => by rw [List.forIn_nil]; rfl
  | (n, k) :: r, acc, h => by
    rw [List.forIn_cons, hf]
    have ih := fun acc => closure_loop env f hf r acc fun y hy => h y (List.mem_cons_of_mem _ hy)
    unfold cloFrom
    by_cases hk : (k == NameKind.free) = true
    · rw [if_pos hk, if_pos hk]
      obtain ⟨c, hc⟩ := h (n, k) List.mem_cons_self (by simpa using hk)
      have e : cellOf env n = pure c := by unfold cellOf; rw [hc]
      rw [e]
      have e2 : (env.cells.lookup n).getD 0 = c := by rw [hc]; rfl
      rw [e2]
      exact ih _
    · rw [if_neg hk, if_neg hk]
      exact ih _
theorem closure_ok {scope : Scope} {env : Env} (h : ∀ y ∈ scope.names, y.2 = .free → ∃ c, env.cells.lookup y.1 = some c) : closureFor scope env = pure (cloFrom env.cells scope.names []) := by
  simp only [closureFor]
  rw [closure_loop env _ (fun n k c => rfl) scope.names [] h]
  rfl

theorem mem_lookup {α : Type} : ∀ {l : List (Str × α)} {n : Str} {c : α}, (n, c) ∈ l → ∃ c', l.lookup n = some c'
  | (k, v) :: r, n, c, h => by
    rw [List.lookup_cons]
    cases hb : n == k with
    | true => exact ⟨_, rfl⟩
    | false =>
      rcases List.mem_cons.mp h with e | h
      · cases e; simp at hb
      · exact mem_lookup h

theorem cloFrom_mem {cells : List (Str × Addr)} : ∀ {names : List (Str × NameKind)} {acc : List (Str × Addr)} {n : Str} {c : Addr}, (n, c) ∈ cloFrom cells names acc → (n, c) ∈ acc ∨ ((n, .free) ∈ names ∧ c = (cells.lookup n).getD 0)
  | [], _, _, _, h => .inl h
  | (m, k) :: r, acc, n, c, h => by
    unfold cloFrom at h
    split at h
    · rename_i hk
      have hk : k = .free := by simpa using hk
      rcases cloFrom_mem h with h | ⟨h1, h2⟩
      · rcases List.mem_cons.mp h with e | h
        · cases e; exact .inr ⟨hk ▸ List.mem_cons_self, rfl⟩
        · exact .inl h
      · exact .inr ⟨List.mem_cons_of_mem _ h1, h2⟩
    · rcases cloFrom_mem h with h | ⟨h1, h2⟩
      · exact .inl h
      · exact .inr ⟨List.mem_cons_of_mem _ h1, h2⟩
theorem cloFrom_acc {cells : List (Str × Addr)} : ∀ {names : List (Str × NameKind)} {acc : List (Str × Addr)} {p : Str × Addr}, p ∈ acc → p ∈ cloFrom cells names acc
  | [], _, _, h => h
  | (m, k) :: r, acc, p, h => by
    unfold cloFrom
    split
    · exact cloFrom_acc (List.mem_cons_of_mem _ h)
    · exact cloFrom_acc h
theorem cloFrom_has {cells : List (Str × Addr)} : ∀ {names : List (Str × NameKind)} {acc : List (Str × Addr)} {n : Str}, (n, .free) ∈ names → (n, (cells.lookup n).getD 0) ∈ cloFrom cells names acc
  | (m, k) :: r, acc, n, h => by
    unfold cloFrom
    rcases List.mem_cons.mp h with e | h
    · cases e
      exact cloFrom_acc List.mem_cons_self
    · split
      · exact cloFrom_has h
      · exact cloFrom_has h

theorem cells_mem : ∀ {names : List (Str × NameKind)} {h : Heap} {acc : List (Str × Addr)} {x : Str} {c : Addr}, (x, c) ∈ cellsFrom h.objs.size names acc →
    (x, c) ∈ acc ∨ ((x, .cell) ∈ names ∧ h.objs.size ≤ c ∧ CellAt (pushCells h names) c none)
  | [], _, _, _, _, h => .inl h
  | (n, k) :: r, h, acc, x, c, hm => by
    unfold cellsFrom at hm
    unfold pushCells
    split at hm
    · rename_i hk
      rw [if_pos hk]
      have hk : k = .cell := by simpa using hk
      rw [← Heap.size_push h { cls := .type "cell", data := .cell none }] at hm
      rcases cells_mem hm with hm | ⟨h1, h2, h3⟩
      · rcases List.mem_cons.mp hm with e | hm
        · cases e
          exact .inr ⟨hk ▸ List.mem_cons_self, Nat.le_refl _, _, pushCells_keeps r _ _ _ (Heap.get?_push_size _ rfl), rfl⟩
        · exact .inl hm
      · rw [Heap.size_push] at h2
        exact .inr ⟨List.mem_cons_of_mem _ h1, Nat.le_of_succ_le h2, h3⟩
    · rename_i hk
      rw [if_neg hk]
      rcases cells_mem hm with hm | ⟨h1, h2, h3⟩
      · exact .inl hm
      · exact .inr ⟨List.mem_cons_of_mem _ h1, h2, h3⟩
theorem cells_acc : ∀ {names : List (Str × NameKind)} {n : Nat} {acc : List (Str × Addr)} {p : Str × Addr}, p ∈ acc → p ∈ cellsFrom n names acc
  | [], _, _, _, h => h
  | (m, k) :: r, n, acc, p, h => by
    unfold cellsFrom
    split
    · exact cells_acc (List.mem_cons_of_mem _ h)
    · exact cells_acc h
theorem cells_has : ∀ {names : List (Str × NameKind)} {n : Nat} {acc : List (Str × Addr)} {x : Str}, (x, .cell) ∈ names → ∃ c, (x, c) ∈ cellsFrom n names acc
  | (m, k) :: r, n, acc, x, h => by
    unfold cellsFrom
    rcases List.mem_cons.mp h with e | h
    · cases e
      exact ⟨n, cells_acc List.mem_cons_self⟩
    · split
      · exact cells_has h
      · exact cells_has h
theorem cells_inj : ∀ {names : List (Str × NameKind)} {h : Heap} {acc : List (Str × Addr)} {x y : Str} {c : Addr}, (∀ p ∈ acc, p.2 < h.objs.size) → (∀ x y c, (x, c) ∈ acc → (y, c) ∈ acc → x = y) →
    (x, c) ∈ cellsFrom h.objs.size names acc → (y, c) ∈ cellsFrom h.objs.size names acc → x = y
  | [], _, _, _, _, _, _, hi, h1, h2 => hi _ _ _ h1 h2
  | (n, k) :: r, h, acc, x, y, c, hl, hi, h1, h2 => by
    unfold cellsFrom at h1 h2
    split at h1
    · rename_i hk
      rw [if_pos hk] at h2
      rw [← Heap.size_push h { cls := .type "cell", data := .cell none }] at h1 h2
      refine cells_inj (h := h.push _) (fun p hp => ?_) (fun x y c a b => ?_) h1 h2
      · rw [Heap.size_push]
        rcases List.mem_cons.mp hp with rfl | hp
        · exact Nat.lt_succ_self _
        · exact Nat.lt_succ_of_lt (hl p hp)
      · rcases List.mem_cons.mp a with e | a <;> rcases List.mem_cons.mp b with e' | b
        · cases e; cases e'; rfl
        · cases e; exact absurd (hl _ b) (Nat.lt_irrefl _)
        · cases e'; exact absurd (hl _ a) (Nat.lt_irrefl _)
        · exact hi _ _ _ a b
    · rename_i hk
      rw [if_neg hk] at h2
      exact cells_inj hl hi h1 h2

theorem newEnv_comp {M : Model} {A : Around} {E : Value → Shared → Prop} {s : Shared} {scope : Scope} {globals : Addr} {closure : List (Str × Addr)} {qual : Str} {func : Option Addr} {code : Value} {around : Env} {builtins : Addr} {Q : Env → Shared → Prop}
    (h : Q (newEnv scope s.heap.objs.size globals (cellsFrom (s.heap.objs.size + 1) scope.names closure) qual func code (some around) builtins)
      { s with heap := pushCells (s.heap.push { cls := .type "dict", data := .dict #[] }) scope.names }) :
    wpAny M A (newFunctionEnv scope globals closure [] qual func code (some around) builtins) Q E s := by
  simp only [newFunctionEnv, Option.isSome_some, if_true]
  refine wpAny_bind (wpAny_alloc ?_)
  refine wpAny_bind (wpAny_layCells _ (fun n k c => rfl) scope.names closure _ _ ?_)
  rw [show ({ s with heap := s.heap.push { cls := .type "dict", data := .dict #[] } } : Shared).heap.objs.size = s.heap.objs.size + 1 from Heap.size_push ..]
  rw [List.forIn_nil]
  exact wpAny_bind (wpAny_pure (wpAny_pure h))

/-- every name of the written scope, in the scope that runs -/
theorem lookup_relS {sc : Scope} : ∀ {names : List (Str × NameKind)} {x : Str} {k : NameKind},
    (names.map fun (n, k) => if (k == NameKind.free && sc.kind == .function && sc.names.lookup n == some .cell) then (n, NameKind.cell) else (n, k)).lookup x = some k →
    ∃ k', names.lookup x = some k' ∧ (k = k' ∨ (k' = .free ∧ k = .cell))
  | [], _, _, h => by simp at h
  | (n, k₀) :: r, x, k, h => by
    have ih := @lookup_relS sc r x k
    have h' : List.lookup x ((if (k₀ == NameKind.free && sc.kind == .function && sc.names.lookup n == some .cell) = true then (n, NameKind.cell) else (n, k₀)) :: (r.map _)) = some k := h
    cases hx : x == n with
    | true =>
      simp only [List.lookup_cons, hx]
      by_cases hc : (k₀ == NameKind.free && sc.kind == .function && sc.names.lookup n == some .cell) = true
      · rw [if_pos hc] at h'
        simp only [List.lookup_cons, hx] at h'
        cases h'
        simp only [Bool.and_eq_true, beq_iff_eq] at hc
        exact ⟨k₀, rfl, .inr ⟨hc.1.1, rfl⟩⟩
      · rw [if_neg hc] at h'
        simp only [List.lookup_cons, hx] at h'
        cases h'
        exact ⟨_, rfl, .inl rfl⟩
    | false =>
      simp only [List.lookup_cons, hx]
      by_cases hc : (k₀ == NameKind.free && sc.kind == .function && sc.names.lookup n == some .cell) = true
      · rw [if_pos hc] at h'
        simp only [List.lookup_cons, hx] at h'
        exact ih h'
      · rw [if_neg hc] at h'
        simp only [List.lookup_cons, hx] at h'
        exact ih h'
/-- the names of a comprehension's block: its own (with their places in N), or captured -/
structure BlkOk (N : List Str) (sc scope : Scope) (own : List (Str × Nat)) : Prop where
  kind : scope.kind = .function
  uniq : ∀ y ∈ scope.names, scope.names.lookup y.1 = some y.2
  ix : ∀ p ∈ own, N[p.2]? = some p.1
  free : ∀ y ∈ scope.names, y.2 = .free → sc.names.lookup y.1 = some .cell ∨ sc.names.lookup y.1 = some .free
  own : ∀ y ∈ scope.names, y.2 = .local ∨ y.2 = .cell → y.1 ∈ own.map (·.1) ∨ y.1 ∉ N
/-- the slots of the block's own names forgotten -/
def wipe (σ : St) : List Nat → St
  | [] => σ
  | v :: vs => (wipe σ vs).set v none
theorem wipe_length (σ : St) : ∀ vs : List Nat, (wipe σ vs).length = σ.length
  | [] => rfl
  | v :: vs => by unfold wipe; rw [List.length_set, wipe_length σ vs]
theorem wipe_some {σ : St} {i : Nat} {x : V} : ∀ {vs : List Nat}, (wipe σ vs)[i]? = some (some x) → σ[i]? = some (some x) ∧ i ∉ vs
  | [], h => ⟨h, by simp⟩
  | v :: vs, h => by
    unfold wipe at h
    by_cases hi : v = i
    · subst hi
      by_cases hv : v < (wipe σ vs).length
      · rw [List.getElem?_set_self hv] at h; cases h
      · rw [List.getElem?_eq_none (by simpa using hv)] at h; cases h
    · rw [List.getElem?_set_ne hi] at h
      obtain ⟨h1, h2⟩ := wipe_some h
      exact ⟨h1, by simp only [List.mem_cons, not_or]; exact ⟨fun e => hi e.symm, h2⟩⟩

/-- the context of a block that starts at s, its iterator's objects at fp -/
abbrev Cx.blk (X : Cx) (s : Shared) (H : Hp) (scope : Scope) (cenv : Env) (fp : List Addr) : Cx := { X with s_0 := s, H_0 := H, env := cenv, outer := X.stack, ex := fp, fn := fun x => scope.names.lookup x == some .cell, pn := [], xe := fun _ _ => False }
section
variable {X : Cx} {pins : List (Addr × Obj)} {σ : St} {H : Hp} {s : Shared}
theorem block_start {scope : Scope} {own : List (Str × Nat)} {fp : List Addr} (I : Inv X pins σ H s) (ok : BlkOk X.N X.env.scope scope own) (hN : X.N.Nodup) (hfp : ∀ b ∈ fp, FpOk X pins H b ∧ b < s.heap.objs.size) :
    Inv (X.blk s H scope (compEnvC scope (cellsFrom (s.heap.objs.size + 1) scope.names (cloFrom X.env.cells scope.names [])) s.heap.objs.size X.env) fp) [] (wipe σ (own.map (·.2))) H { s with heap := pushCells (s.heap.push { cls := .type "dict", data := .dict #[] }) scope.names } := by
  have hfree : ∀ y ∈ scope.names, y.2 = .free → ∃ c, X.env.cells.lookup y.1 = some c := fun y hy e => by
    rcases ok.free y hy e with k | k
    · exact I.ok.has _ (.inl k)
    · exact I.ok.has _ (.inr k)
  generalize hcenv : compEnvC scope (cellsFrom (s.heap.objs.size + 1) scope.names (cloFrom X.env.cells scope.names [])) s.heap.objs.size X.env = cenv
  have kp : ∀ b o, s.heap.get? b = some o → (pushCells (s.heap.push { cls := .type "dict", data := .dict #[] }) scope.names).get? b = some o := fun b o e => pushCells_keeps _ _ _ _ (Heap.get?_push_of_some _ e)
  have hL : cenv.locals = s.heap.objs.size := by rw [← hcenv]; rfl
  have hcl : cenv.cells = cellsFrom (s.heap.objs.size + 1) scope.names (cloFrom X.env.cells scope.names []) := by rw [← hcenv]; rfl
  have hsc : cenv.scope = relS scope X.env.scope := by rw [← hcenv]; rfl
  rw [← Heap.size_push s.heap { cls := .type "dict", data := .dict #[] }] at hcl
  have cm : ∀ {y c}, (y, c) ∈ cloFrom X.env.cells scope.names [] → X.env.cells.lookup y = some c ∧ c < s.heap.objs.size := fun {y c} hm => by
    rcases cloFrom_mem hm with hm | ⟨h1, rfl⟩
    · cases hm
    · obtain ⟨c, hc⟩ := hfree _ h1 rfl
      rw [hc]
      obtain ⟨w, z⟩ := I.cell _ _ hc
      exact ⟨rfl, z.lt⟩
  have mem : ∀ {y c}, cenv.cells.lookup y = some c → (X.env.cells.lookup y = some c ∧ c < s.heap.objs.size) ∨ (s.heap.objs.size + 1 ≤ c ∧ CellAt (pushCells (s.heap.push { cls := .type "dict", data := .dict #[] }) scope.names) c none) := fun {y c} e => by
    rw [hcl] at e
    rcases cells_mem (PySem.mem_of_lookup e) with hm | ⟨_, h2, h3⟩
    · exact .inl (cm hm)
    · rw [Heap.size_push] at h2; exact .inr ⟨h2, h3⟩
  have look : ∀ {y}, scope.names.lookup y = some .free → ∃ c, cenv.cells.lookup y = some c ∧ X.env.cells.lookup y = some c := fun {y} hl => by
    have hy : (y, NameKind.free) ∈ scope.names := PySem.mem_of_lookup hl
    obtain ⟨c', e'⟩ := mem_lookup (cells_acc (names := scope.names) (n := (s.heap.push { cls := .type "dict", data := .dict #[] }).objs.size) (cloFrom_has (cells := X.env.cells) (acc := []) hy))
    rw [← hcl] at e'
    refine ⟨c', e', ?_⟩
    rw [hcl] at e'
    rcases cells_mem (PySem.mem_of_lookup e') with hm | ⟨h1, _, _⟩
    · exact (cm hm).1
    · have := ok.uniq _ h1
      rw [hl] at this; cases this
  have okB : (X.blk s H scope cenv fp).Ok := by
    refine ⟨I.ok.mod, by show cenv.scope.kind = _; rw [hsc]; exact ok.kind, by show cenv.globals = _; rw [← hcenv]; exact I.ok.glob, by show cenv.builtins = _; rw [← hcenv]; exact I.ok.blt, by show s.heap.objs.size ≤ cenv.locals; rw [hL]; exact Nat.le_refl _,
      fun y z c e1 e2 => ?_, fun y hy => ?_, fun y c z e => ?_, I.ok.hd, I.ok.frames, .inl rfl, fun b hb => ⟨?_, fun y c e z => ?_⟩, I.bs, Nat.le_trans I.ok.bsz I.sz, fun b o e hb => ?_, fun b hb z => ?_, I.stack, I.stkFree⟩
    · have e1 : cenv.cells.lookup y = some c := e1
      have e2 : cenv.cells.lookup z = some c := e2
      rw [hcl] at e1 e2
      refine cells_inj (fun p hp => ?_) (fun y z c a b => I.ok.inj y z c (cm a).1 (cm b).1) (PySem.mem_of_lookup e1) (PySem.mem_of_lookup e2)
      rw [Heap.size_push]
      exact Nat.lt_succ_of_lt (cm (y := p.1) (c := p.2) hp).2
    · show ∃ c, cenv.cells.lookup y = some c
      have key : ∀ k, cenv.kindOf y = some k → (k = .cell ∨ k = .free) → ∃ c, cenv.cells.lookup y = some c := fun k hk hk' => by
        unfold Env.kindOf at hk
        rw [hsc] at hk
        obtain ⟨k', e, r⟩ := lookup_relS hk
        have : k' = .cell ∨ k' = .free := by
          rcases r with rfl | ⟨rfl, _⟩
          · exact hk'
          · exact .inr rfl
        rcases this with rfl | rfl
        · obtain ⟨c, hm⟩ := cells_has (n := (s.heap.push { cls := .type "dict", data := .dict #[] }).objs.size) (acc := cloFrom X.env.cells scope.names []) (PySem.mem_of_lookup e)
          obtain ⟨c', e'⟩ := mem_lookup hm
          exact ⟨c', by rw [hcl]; exact e'⟩
        · obtain ⟨c, h1, _⟩ := look e
          exact ⟨c, h1⟩
      rcases hy with hy | hy
      · exact key _ hy (.inl rfl)
      · exact key _ hy (.inr rfl)
    · have z : (scope.names.lookup y == some NameKind.cell) = true := z
      have z : scope.names.lookup y = some .cell := by simpa using z
      have e : cenv.cells.lookup y = some c := e
      rw [hcl] at e
      rcases cells_mem (PySem.mem_of_lookup e) with hm | ⟨_, h2, _⟩
      · rcases cloFrom_mem hm with hm | ⟨h1, _⟩
        · cases hm
        · have q := ok.uniq _ h1
          rw [z] at q; cases q
      · rw [Heap.size_push] at h2
        exact Nat.le_of_succ_le h2
    · show b ≠ cenv.locals
      rw [hL]; exact Nat.ne_of_lt (hfp b hb).2
    · have e : cenv.cells.lookup y = some c := e
      rcases mem e with ⟨h1, _⟩ | ⟨h1, _⟩
      · exact (hfp b hb).1.2.2.2.2.1 y c h1 z
      · have h2 : s.heap.objs.size + 1 ≤ b := by rw [← z]; exact h1
        exact absurd (Nat.lt_of_lt_of_le (hfp b hb).2 (Nat.le_of_succ_le h2)) (Nat.lt_irrefl _)
    · rcases (hfp b hb).1.2.2.2.1 with z | z
      · exact I.ok.noex b o e z
      · exact absurd (Nat.lt_of_lt_of_le (Heap.lt_size e) (Nat.le_trans I.ok.bsz z)) (Nat.lt_irrefl _)
    · rcases List.mem_cons.mp (I.stkSub b z) with z | z
      · exact (hfp b hb).1.2.1 z
      · exact (hfp b hb).1.2.2.1 z
  refine ⟨okB, rfl, I.bare, Un.kept kp, ⟨fun _ => none, ?_, fun i y av e1 e2 e3 => ?_⟩, fun y c e => ?_, ?_, fun y c e => ?_, fun p hp => ?_, I.hok.kept kp, by rw [wipe_length]; exact I.len⟩
  · show Heap.Ns _ cenv.locals _
    rw [hL]
    exact Heap.Ns.keeps (Heap.Ns.new ..) fun b o e => pushCells_keeps _ _ _ _ e
  · obtain ⟨e2, hne⟩ := wipe_some e2
    have hfr : scope.names.lookup y = some .free ∧ (cenv.kindOf y = some .cell ∨ cenv.kindOf y = some .free) := by
      have key : ∀ k, cenv.scope.names.lookup y = some k → k = .local ∨ k = .cell ∨ k = .free → scope.names.lookup y = some .free ∧ (cenv.kindOf y = some .cell ∨ cenv.kindOf y = some .free) := fun k hk hk' => by
        have hk0 := hk
        rw [hsc] at hk
        obtain ⟨k', e, r⟩ := lookup_relS hk
        have no : ¬ (k' = .local ∨ k' = .cell) := fun hh => by
          rcases ok.own _ (PySem.mem_of_lookup e) hh with e' | e'
          · obtain ⟨p, hp, hpy⟩ := List.mem_map.mp e'
            have e3 := ok.ix p hp
            have : p.1 = y := hpy
            rw [this] at e3
            exact hne (List.mem_map.mpr ⟨p, hp, nodup_ix hN e3 e1⟩)
          · exact e' (List.mem_of_getElem? e1)
        rcases r with rfl | ⟨rfl, rfl⟩
        · rcases hk' with rfl | rfl | rfl
          · exact absurd (.inl rfl) no
          · exact absurd (.inr rfl) no
          · exact ⟨e, .inr hk0⟩
        · exact ⟨e, .inl hk0⟩
      have e3 : Vis cenv.scope y := e3
      rcases e3 with e3 | e3 | e3
      · exact key _ e3 (.inl rfl)
      · exact key _ e3 (.inr (.inl rfl))
      · exact key _ e3 (.inr (.inr rfl))
    obtain ⟨m, hn, hl⟩ := I.loc
    have hvis : Vis X.env.scope y := (ok.free _ (PySem.mem_of_lookup hfr.1) rfl).elim (fun k => .inr (.inl k)) (fun k => .inr (.inr k))
    obtain ⟨w, r, q⟩ := hl i y av e1 e2 hvis
    refine ⟨w, r, .inr ⟨hfr.2, ?_⟩⟩
    obtain ⟨c, h1, h2⟩ := look hfr.1
    rcases q with ⟨k, _⟩ | ⟨_, c', e', z⟩
    · have k : X.env.scope.names.lookup y = some .local := k
      rcases ok.free _ (PySem.mem_of_lookup hfr.1) rfl with k' | k' <;> rw [show X.env.scope.names.lookup y = _ from k'] at k <;> cases k
    · rw [h2] at e'; cases e'
      exact ⟨c, h1, z.keeps kp⟩
  · have e : cenv.cells.lookup y = some c := e
    rcases mem e with ⟨h1, _⟩ | ⟨_, z⟩
    · obtain ⟨w, z⟩ := I.cell y c h1
      exact ⟨w, z.keeps kp⟩
    · exact ⟨_, z⟩
  · show H cenv.locals = none
    rw [hL]; exact I.hok.fresh (Nat.le_refl _)
  · have e : cenv.cells.lookup y = some c := e
    rcases mem e with ⟨h1, _⟩ | ⟨h1, _⟩
    · exact I.freeC y c h1
    · exact I.hok.fresh (Nat.le_of_succ_le h1)
  · exact absurd (show p ∈ ([] : List (Addr × Obj)) ++ [] from hp) (by simp)

/-- an item appended to a tracked list -/
theorem app_ok {E : Value → Shared → Prop} {D : Addr} {xs : List V} {y : V} {v : Value} {Q : Value → Shared → Prop} (I : Inv X pins σ H s) (hD : H D = some (.lst xs)) (hz : xs.length < sizeLine) (r : RelV y v)
    (h : ∀ s', Inv X pins σ (upd H D (.lst (xs ++ [y]))) s' → Q .none s') : wpAny (model X.prog X.w) X.A (call (.builtin "list.append") [.ref D, v]) Q E s := by
  obtain ⟨hz', its, n, ri, e⟩ := I.hok D _ hD
  have hl := ri.length
  refine append_at (hsz := by rw [List.size_toArray]; omega) e fun h' sb ho' => ?_
  refine h { s with heap := h' } (I.write (t' := s.toks) (by rw [hD]; trivial) (.inl rfl) (fun b u hb q => (sb.2 b hb).trans q) ⟨_, ho'⟩ ⟨by rw [List.length_append]; exact hz, its ++ [v], n + 1, ri.append (.cons r .nil), ?_⟩)
  rw [ho']
  simp

/-- a clause's tests -/
def PTs (X : Cx) (ifs : List Expr) (t : TT) : Prop :=
  ∀ (pins : List (Addr × Obj)) (s : Shared) (σ : St) (H : Hp) (Q : Bool → Hp → Prop), Inv X pins σ H s → t σ H Q →
    wpAny (model X.prog X.w) X.A (forIn ifs true fun c r => if r = true then do let ok ← isTrue c X.env (eval c X.env); pure (ForInStep.yield ok) else pure (ForInStep.yield r)) (TP X pins σ Q) X.xe s
def tYes : TT := fun _ H Q => Q true H
theorem pts_nil : PTs X [] tYes := fun _ _ _ H _ I h => wpAny_tests_nil ⟨H, I, h⟩
end

theorem thnF {α : Type} {t : Sem α} {Q Q' : α → Shared → Prop} {M : Model} {A : Around} {E : Value → Shared → Prop} {s : Shared} (h : wpAny M A t Q (fun _ _ => False) s) (hQ : ∀ a s, Q a s → Q' a s) : wpAny M A t Q' E s := wpAny_mono h hQ fun _ _ z => False.elim z

/-- the loop of a list comprehension's block, the target of any form (codeAny_compLoop_tests asks a target that no tuple goes to; statement and proof follow it, PyProof/CompMap.lean:41-61, with the step letOwnedTupleGo kept) -/
theorem compLoop_any {prog : Program} {w : World} {A : Around} {R : Result → Shared → Prop} {s : Shared} {elt target iter : Expr} {ifs : List Expr} {scope : Scope} {pos : Pos} {it acc : Value} {env : Env} (I : Nat → Shared → Prop)
    (turn : ∀ n s, I n s → wpAny (model prog w) A (pyNext it) (fun r s₁ => match r with
      | none => R (.ok .next) s₁
      | some v => wpAny (model prog w) A (letOwnedTupleGo target it v) (fun _ s₁' => wpAny (model prog w) A (assign target env v) (fun _ s₂ =>
          wpAny (model prog w) A (forIn ifs true fun c r => if r = true then do let ok ← isTrue c env (eval c env); pure (ForInStep.yield ok) else pure (ForInStep.yield r)) (fun ok s₃ =>
            if ok = true then wpAny (model prog w) A (eval elt env) (fun x s₄ =>
              wpAny (model prog w) A (call (.builtin "list.append") [acc, x]) (fun _ s₅ => ∃ m, m < n ∧ I m s₅) (notedBy (model prog w) A env fun e s' => R (.error e) s') s₄) (notedBy (model prog w) A env fun e s' => R (.error e) s') s₃
            else ∃ m, m < n ∧ I m s₃) (notedBy (model prog w) A env fun e s' => R (.error e) s') s₂) (notedBy (model prog w) A env fun e s' => R (.error e) s') s₁') (notedBy (model prog w) A env fun e s' => R (.error e) s') s₁) (notedBy (model prog w) A env fun e s' => R (.error e) s') s)
    (n : Nat) (h : I n s) :
    codeAny (model prog w) A (.compLoop (.ListComp elt [⟨target, iter, ifs, 0⟩] scope pos) 0 it acc env) R s := by
  refine codeAny_loop rfl I (fun n s hI => ?_) n h
  show wpAny _ A ((compTurn (.ListComp elt [⟨target, iter, ifs, 0⟩] scope pos) 0 it acc env).onRaise (fun x => do noteFrame x env; theTreesLotGoes x)) _ _ s
  refine wpAny_noted ?_
  rw [compTurn_list]
  refine wpAny_bind (wpAny_standAt (wpAny_bind (wpAny_mono (turn n s hI) (fun r s₁ h₁ => ?_) fun _ _ h' => h')))
  cases r with
  | none => exact wpAny_pure h₁
  | some v =>
    refine wpAny_bind (wpAny_mono h₁ (fun _ s₁' h₁' => ?_) fun _ _ h' => h')
    refine wpAny_bind (wpAny_mono h₁' (fun _ s₂ h₂ => wpAny_bind (wpAny_mono h₂ (fun ok s₃ h₃ => ?_) fun _ _ h' => h')) fun _ _ h' => h')
    cases ok with
    | false => exact wpAny_pure ⟨rfl, h₃⟩
    | true =>
      exact wpAny_bind (wpAny_bind (wpAny_mono h₃ (fun x s₄ h₄ => wpAny_bind (wpAny_mono h₄ (fun _ s₅ h₅ => wpAny_pure (wpAny_pure ⟨rfl, h₅⟩)) fun _ _ h' => h')) fun _ _ h' => h'))

section
variable {X : Cx}
/-- [elt for target in iter if ..]: D the new list; W by the turn and a measure, Nx what a turn is to reach -/
def tLc (wi : TI) (g : TG) (tt : TT) (te : TE) (vs : List Nat) : TE := fun σ H Q => wi σ H fun J H1 => ∀ D, H1 D = none → ∃ W : Nat → Nat → Hp → Prop, (∃ m, W 0 m (upd H1 D (.lst []))) ∧ ∀ i m H, W i m H →
  (J.stop i H ∧ Q (.ref D) H) ∨ (J.go i H ∧ ∃ Nx : Hp → Prop, (∀ H', Nx H' → ∃ m', m' < m ∧ W (i + 1) m' H') ∧ ∀ x H', J.yld i H x H' → g x (wipe σ vs) H' fun σ2 H2 => wipe σ2 vs = wipe σ vs ∧ tt σ2 H2 fun b H3 =>
    if b = true then te σ2 H3 fun y H4 => ∃ acc, H4 D = some (.lst acc) ∧ acc.length < sizeLine ∧ Nx (upd H4 D (.lst (acc ++ [y]))) else Nx H3)
theorem lc_core {pins : List (Addr × Obj)} {s : Shared} {σ : St} {H : Hp} {Q : VK} {elt tg iter : Expr} {ifs : List Expr} {scope : Scope} {own : List (Str × Nat)} {pos pos' : Pos} {wi : TI} {g : TG} {tt : TT} {te : TE} {use : Option (Value → Sem Unit)} {Qf : Value → Shared → Prop}
    (hc : X.calm = true) (hN : X.N.Nodup) (I : Inv X pins σ H s) (hi : PI X tg iter wi) (ok : BlkOk X.N X.env.scope scope own)
    (hg : ∀ (s : Shared) (H : Hp) (C : Addr) (cl : List (Str × Addr)) (fp : List Addr), PG (X.blk s H scope (compEnvC scope cl C X.env) fp) tg g) (ht : ∀ (s : Shared) (H : Hp) (C : Addr) (cl : List (Str × Addr)) (fp : List Addr), PTs (X.blk s H scope (compEnvC scope cl C X.env) fp) ifs tt)
    (he : ∀ (s : Shared) (H : Hp) (C : Addr) (cl : List (Str × Addr)) (fp : List Addr), PE (X.blk s H scope (compEnvC scope cl C X.env) fp) elt te) (hs : ∀ x, foldedSetIterable iter X.env x = pure x)
    (h : tLc wi g tt te (own.map (·.2)) σ H Q)
    (hRR : ∀ D C s' m H', Inv X pins σ H' s' → Q (.ref D) H' → s'.heap.Ns C m → FpOk X pins H' C → compPost (model X.prog X.w) X.A X.xe use Qf (.ref D) C (.ok .next) s') :
    wpAny (model X.prog X.w) X.A (comprehension (.ListComp elt [⟨tg, iter, ifs, 0⟩] scope pos) scope X.env pos' (newList []) false (eval iter X.env) use) Qf X.xe s := by
  have hfree : ∀ y ∈ scope.names, y.2 = .free → ∃ c, X.env.cells.lookup y.1 = some c := fun y hy e => by
    rcases ok.free y hy e with k | k
    · exact I.ok.has _ (.inl k)
    · exact I.ok.has _ (.inr k)
  refine wpAny_comprehension_free (use := use) rfl hs (closure_ok hfree) ok.kind (fun y hy e => by rw [ok.uniq y hy, e])
    (thn (hi pins s σ H _ I h) fun xv s1 hx => thn hx fun itv s2 h2 => ?_)
  obtain ⟨it, fp, tn, J, H2, e, I2, T, st2, f2, q⟩ := h2
  subst e
  refine wpAny_newObj_type (newEnv_comp ?_) (by show 0 ≤ sizeLine; decide)
  generalize hD : s2.heap.objs.size = D
  have hDn : H2 D = none := I2.hok.fresh (Nat.le_of_eq hD)
  obtain ⟨W, ⟨m0, w0⟩, turn⟩ := q D hDn
  -- the new list
  generalize hs3 : ({ s2 with heap := s2.heap.push { cls := .type "list", data := .seq ([] : List Value).toArray } } : Shared) = s3
  have I3 : Inv X pins σ (upd H2 D (.lst [])) s3 := by
    rw [← hs3]
    refine I2.laid (t' := s2.toks) (fun b o e => Heap.get?_push_of_some _ e) (Nat.le_of_eq hD) ⟨Nat.zero_le _, [], 0, .nil, ?_⟩
    rw [← hD]
    exact Heap.get?_push_size _ rfl
  have h3 : s3.heap = s2.heap.push { cls := .type "list", data := .seq ([] : List Value).toArray } := by rw [← hs3]
  have sz : ∀ b ∈ fp, b < s2.heap.objs.size := fun b hb => by
    obtain ⟨o, e, _⟩ := T.obj _ _ st2 b hb
    exact Heap.lt_size e
  have f3 : ∀ b ∈ fp, FpOk X pins (upd H2 D (.lst [])) b ∧ b < s3.heap.objs.size := fun b hb => by
    have hlt := sz b hb
    refine ⟨⟨?_, (f2 b hb).2⟩, by rw [h3, Heap.size_push]; exact Nat.lt_succ_of_lt hlt⟩
    rw [upd_ne (by rw [← hD]; exact Nat.ne_of_lt hlt)]
    exact (f2 b hb).1
  have st3 : tn 0 s3.heap := T.keep _ _ _ st2 fun b _ o e => by rw [h3]; exact Heap.get?_push_of_some _ e
  have I4 := block_start I3 ok hN f3
  have pg := hg s3 (upd H2 D (.lst [])) s3.heap.objs.size (cellsFrom (s3.heap.objs.size + 1) scope.names (cloFrom X.env.cells scope.names [])) fp
  have pt := ht s3 (upd H2 D (.lst [])) s3.heap.objs.size (cellsFrom (s3.heap.objs.size + 1) scope.names (cloFrom X.env.cells scope.names [])) fp
  have pe := he s3 (upd H2 D (.lst [])) s3.heap.objs.size (cellsFrom (s3.heap.objs.size + 1) scope.names (cloFrom X.env.cells scope.names [])) fp
  show codeAny _ _ (.compStart (.ListComp elt [⟨tg, iter, ifs, 0⟩] scope pos) 0 (.ref it) (.ref D) (compEnvC scope (cellsFrom (s3.heap.objs.size + 1) scope.names (cloFrom X.env.cells scope.names [])) s3.heap.objs.size X.env)) (compPost (model X.prog X.w) X.A X.xe use Qf (.ref D) s3.heap.objs.size) { s3 with heap := pushCells (s3.heap.push { cls := .type "dict", data := .dict #[] }) scope.names }
  have nfp : ∀ b ∈ fp, (upd H2 D (.lst [])) b = none := fun b hb => (f3 b hb).1.1
  generalize hce : compEnvC scope (cellsFrom (s3.heap.objs.size + 1) scope.names (cloFrom X.env.cells scope.names [])) s3.heap.objs.size X.env = ce at I4 pg pt pe ⊢
  have cL : ce.locals = s3.heap.objs.size := by subst hce; rfl
  generalize hH3 : upd H2 D (.lst []) = H3 at I3 I4 pg pt pe w0 nfp f3
  generalize hs4 : ({ s3 with heap := pushCells (s3.heap.push { cls := .type "dict", data := .dict #[] }) scope.names } : Shared) = s4 at I4 ⊢
  have st4 : tn 0 s4.heap := T.keep _ _ _ st3 fun b _ o e => by rw [← hs4]; exact pushCells_keeps _ _ _ _ (Heap.get?_push_of_some _ e)
  have stat : ∀ {σ' : St} {H' : Hp} {s' : Shared}, Inv (X.blk s3 H3 scope ce fp) [] σ' H' s' → (∀ b ∈ fp, H' b = none) → ∀ b ∈ fp, FpOk (X.blk s3 H3 scope ce fp) [] H' b := fun {σ' H' s'} I' hn b hb =>
    ⟨hn b hb, (I'.ok.exf b hb).1, I'.ok.exfs b hb, .inl hb, fun x c e => (I'.ok.exf b hb).2 x c e, fun p hp => absurd (show p ∈ ([] : List (Addr × Obj)) ++ [] from hp) (by simp)⟩
  have loop : codeAny (model X.prog X.w) X.A (.compLoop (.ListComp elt [⟨tg, iter, ifs, 0⟩] scope pos) 0 (.ref it) (.ref D) ce) (compPost (model X.prog X.w) X.A X.xe use Qf (.ref D) s3.heap.objs.size) s4 := by
    refine compLoop_any (fun n s' => ∃ i H', Inv (X.blk s3 H3 scope ce fp) [] (wipe σ (own.map (·.2))) H' s' ∧ tn i s'.heap ∧ (∀ b ∈ fp, H' b = none) ∧ W i n H') ?_ m0 ⟨0, H3, I4, st4, nfp, w0⟩
    rintro n s5 ⟨i, H5, I5, st5, n5, w5⟩
    rcases turn i n H5 w5 with ⟨stop, qq⟩ | ⟨go, Nx, hNx, step⟩
    · have td := T.done (X.blk s3 H3 scope ce fp) rfl rfl rfl hc i [] s5 _ H5 (fun _ _ => False) I5 (stat I5 n5) st5 stop
      refine thnF td fun r s6 ⟨hr, I6⟩ => ?_
      subst hr
      -- back in the def's context
      have I7 : Inv X pins σ H5 s6 := I3.call' (ch := fp) I6.os I6.base I6.hok I6.bare fun b hb => ⟨(f3 b hb).1.2.2.2.1, (f3 b hb).1.2.1, (f3 b hb).1.2.2.2.2.1, (f3 b hb).1.2.2.2.2.2⟩
      have nC : H5 s3.heap.objs.size = none := by
        have z : H5 ce.locals = none := I6.free
        rw [cL] at z
        exact z
      obtain ⟨m, hn, _⟩ := I6.loc
      have hn : s6.heap.Ns ce.locals m := hn
      rw [cL] at hn
      exact hRR D s3.heap.objs.size s6 m H5 I7 qq hn (I3.fpOk (Nat.le_refl _) nC)
    · have ti := T.item (X.blk s3 H3 scope ce fp) rfl rfl rfl hc i [] s5 _ H5 (fun _ _ => False) I5 (stat I5 n5) st5 go
      refine thnF ti fun r s6 ⟨u, hr, h6⟩ => ?_
      subst hr
      refine thnF h6 fun _ s7 ⟨x, H7, I7, r7, y7, st7, n7⟩ => ?_
      have I7' := I7.pinned (stat I7 n7) (T.obj _ _ st7)
      refine thnF (pg _ s7 _ H7 x u _ I7' r7 (step x H7 y7)) fun _ s8 ⟨σ8, H8, I8, hw8, q8⟩ => ?_
      refine thnF (pt _ s8 σ8 H8 _ I8 q8) fun b s9 ⟨H9, I9, q9⟩ => ?_
      -- the turn's end
      have fin : ∀ {s' : Shared} {H' : Hp}, Inv (X.blk s3 H3 scope ce fp) ([] ++ pinsAt fp s7.heap) σ8 H' s' → Nx H' → ∃ m, m < n ∧ ∃ i H', Inv (X.blk s3 H3 scope ce fp) [] (wipe σ (own.map (·.2))) H' s' ∧ tn i s'.heap ∧ (∀ b ∈ fp, H' b = none) ∧ W i m H' := fun {s' H'} I' nx => by
        obtain ⟨m', hm, w'⟩ := hNx H' nx
        have pin' : ∀ b ∈ fp, ∀ o, s7.heap.get? b = some o → s'.heap.get? b = some o ∧ H' b = none := fun b hb o e =>
          let z := I'.pin (b, o) (List.mem_append_right _ (List.mem_append_right _ (mem_pinsAt hb e)))
          ⟨z.1, z.2.1⟩
        have hl : (wipe σ (own.map (·.2))).length = σ8.length := by rw [← hw8, wipe_length]
        refine ⟨m', hm, i + 1, H', (I'.unpinned (pins := [])).weak hl (fun j v e => ?_), T.keep _ _ _ st7 fun b hb o e => (pin' b hb o e).1, fun b hb => ?_, w'⟩
        · rw [← hw8] at e
          exact (wipe_some e).1
        · obtain ⟨o, e, _⟩ := T.obj _ _ st7 b hb
          exact (pin' b hb o e).2
      cases b with
      | false =>
        simp only [Bool.false_eq_true, if_false] at q9 ⊢
        exact fin I9 q9
      | true =>
        simp only [if_true] at q9 ⊢
        refine thnF (pe _ s9 σ8 H9 _ I9 q9) fun z s10 ⟨yv, H10, I10, r10, acc, hD10, hz10, nx⟩ => ?_
        exact app_ok (X := X.blk s3 H3 scope ce fp) I10 hD10 hz10 r10 fun s11 I11 => fin I11 nx
  exact codeAny_compStart_list loop (T.self X.A 0 _ _ _ st4 loop)
/-- as a value -/
theorem pe_lc {elt tg iter : Expr} {ifs : List Expr} {scope : Scope} {own : List (Str × Nat)} {pos : Pos} {wi : TI} {g : TG} {tt : TT} {te : TE} (hc : X.calm = true) (hN : X.N.Nodup) (hi : PI X tg iter wi) (ok : BlkOk X.N X.env.scope scope own)
    (hg : ∀ (s : Shared) (H : Hp) (C : Addr) (cl : List (Str × Addr)) (fp : List Addr), PG (X.blk s H scope (compEnvC scope cl C X.env) fp) tg g) (ht : ∀ (s : Shared) (H : Hp) (C : Addr) (cl : List (Str × Addr)) (fp : List Addr), PTs (X.blk s H scope (compEnvC scope cl C X.env) fp) ifs tt)
    (he : ∀ (s : Shared) (H : Hp) (C : Addr) (cl : List (Str × Addr)) (fp : List Addr), PE (X.blk s H scope (compEnvC scope cl C X.env) fp) elt te) (hs : ∀ x, foldedSetIterable iter X.env x = pure x := by intro _; rfl) :
    PE X (.ListComp elt [⟨tg, iter, ifs, 0⟩] scope pos) (tLc wi g tt te (own.map (·.2))) := by
  intro pins s σ H Q I h
  rw [eval_ListComp]
  refine lc_core hc hN I hi ok hg ht he hs h fun D C s' m H' I' q hn f => ⟨m, hn, fun h'' sb => ?_⟩
  obtain ⟨f0, f1, f2, f3, f4, f5⟩ := f
  exact ⟨.ref D, H', I'.turned (t' := s'.toks) (fun b o hb e => (sb.2 b hb).trans e) f0 f1 f3 f4 f5, rfl, q⟩
end

/-! ### the forms one uses -/
def blkC (N : List Str) (sc scope : Scope) (own : List (Str × Nat)) : Bool :=
  (match scope.kind with | .function => true | _ => false) && (scope.names.all fun y => decide (scope.names.lookup y.1 = some y.2)) && (own.all fun p => decide (N[p.2]? = some p.1)) &&
    (scope.names.all fun y => match y.2 with
      | .free => (match sc.names.lookup y.1 with | some .cell => true | some .free => true | _ => false)
      | .local => decide (y.1 ∈ own.map (·.1)) || decide (y.1 ∉ N)
      | .cell => decide (y.1 ∈ own.map (·.1)) || decide (y.1 ∉ N)
      | _ => true)
theorem blkOk_by {N : List Str} {sc scope : Scope} {own : List (Str × Nat)} (h : blkC N sc scope own = true) : BlkOk N sc scope own := by
  unfold blkC at h
  simp only [Bool.and_eq_true, List.all_eq_true, decide_eq_true_eq] at h
  obtain ⟨⟨⟨h1, h2⟩, h3⟩, h4⟩ := h
  refine ⟨?_, h2, h3, fun y hy e => ?_, fun y hy e => ?_⟩
  · split at h1
    · assumption
    · cases h1
  · have q := h4 y hy
    simp only [e] at q
    split at q <;> first | exact .inl (by assumption) | exact .inr (by assumption) | cases q
  · have q := h4 y hy
    rcases e with e | e <;> (simp only [e, Bool.or_eq_true, decide_eq_true_eq] at q; exact q)
end L2

namespace L2
open PySem PySem.Spec PyProof.Rows

section
variable {prog : Program} {w : World} {A : Around} {R : Result → Shared → Prop} {s : Shared} {elt t0 i0 t1 i1 : Expr} {ifs0 ifs1 : List Expr} {scope : Scope} {pos : Pos} {it acc : Value} {env : Env}
end

section
variable {X : Cx}
/-- [elt for tg in iter if .. for tg1 in iter1 if ..]: behind the first clause's store and tests the second source's own loop, from which Nx is reached. vs: the block's names; vs1: those of the second target -/
def tLc2 (wi : TI) (g : TG) (tt : TT) (wi1 : TI) (g1 : TG) (tt1 : TT) (te : TE) (vs vs1 : List Nat) : TE := fun σ H Q => wi σ H fun J H1 => ∀ D, H1 D = none → ∃ W : Nat → Nat → Hp → Prop, (∃ m, W 0 m (upd H1 D (.lst []))) ∧ ∀ i m H, W i m H →
  (J.stop i H ∧ Q (.ref D) H) ∨ (J.go i H ∧ ∃ Nx : Hp → Prop, (∀ H', Nx H' → ∃ m', m' < m ∧ W (i + 1) m' H') ∧ ∀ x H', J.yld i H x H' → g x (wipe σ vs) H' fun σ2 H2 => wipe σ2 vs = wipe σ vs ∧ tt σ2 H2 fun b H3 =>
    if b = true then wi1 σ2 H3 fun J1 H4 => ∃ W1 : Nat → Nat → Hp → Prop, (∃ m, W1 0 m H4) ∧ ∀ j k H, W1 j k H →
      (J1.stop j H ∧ Nx H) ∨ (J1.go j H ∧ ∃ Nx1 : Hp → Prop, (∀ H', Nx1 H' → ∃ k', k' < k ∧ W1 (j + 1) k' H') ∧ ∀ x H', J1.yld j H x H' → g1 x (wipe σ2 vs1) H' fun σ3 H5 => wipe σ3 vs1 = wipe σ2 vs1 ∧ tt1 σ3 H5 fun b H6 =>
        if b = true then te σ3 H6 fun y H7 => ∃ acc, H7 D = some (.lst acc) ∧ acc.length < sizeLine ∧ Nx1 (upd H7 D (.lst (acc ++ [y]))) else Nx1 H6)
    else Nx H3)
end
end L2

namespace L2
open PySem PySem.Spec PyProof.Rows

/-! ### lists of pairs as tables -/
section
variable {κ : Type} [DecidableEq κ]
def valV (kvs : List (κ × V)) (k : κ) : Option V := (kvs.find? fun kv => decide (kv.1 = k)).map (·.2)
/-- in its place, or at the end -/
def putK (kvs : List (κ × V)) (k : κ) (v : V) : List (κ × V) :=
  if (kvs.any fun kv => decide (kv.1 = k)) = true then kvs.map (fun kv => if kv.1 = k then (kv.1, v) else kv) else kvs ++ [(k, v)]
def dropK (kvs : List (κ × V)) (k : κ) : List (κ × V) := kvs.filter fun kv => decide (kv.1 ≠ k)

theorem valV_pos {p : κ × V} {r : List (κ × V)} {k : κ} (e : p.1 = k) : valV (p :: r) k = some p.2 := by simp [valV, List.find?_cons, e]
theorem valV_neg {p : κ × V} {r : List (κ × V)} {k : κ} (e : ¬ p.1 = k) : valV (p :: r) k = valV r k := by simp [valV, List.find?_cons, e]
theorem valV_any (k : κ) : ∀ kvs : List (κ × V), (kvs.any fun kv => decide (kv.1 = k)) = (valV kvs k).isSome
  | [] => rfl
  | p :: r => by
    rw [List.any_cons]
    by_cases e : p.1 = k
    · simp only [valV_pos e, decide_eq_true e, Bool.true_or, Option.isSome_some]
    · rw [valV_neg e, decide_eq_false e, Bool.false_or]; exact valV_any k r
theorem length_putK (kvs : List (κ × V)) (k : κ) (v : V) : (putK kvs k v).length ≤ kvs.length + 1 := by
  unfold putK
  split
  · rw [List.length_map]; omega
  · rw [List.length_append, List.length_cons, List.length_nil]; omega
theorem RelO.isSome_eq {o : Option V} {u : Option Value} (r : RelO o u) : o.isSome = u.isSome := by
  cases o with
  | none => cases u with
    | none => rfl
    | some _ => exact (show False from r).elim
  | some _ => cases u with
    | none => exact (show False from r).elim
    | some _ => rfl
/-- raw tables of the same keys -/
theorem KV.val {kvs : List (κ × V)} {vs : List (κ × Value)} (r : KV kvs vs) (k : κ) : RelO (valV kvs k) (valueAt vs k) := by
  unfold KV at r
  induction r with
  | nil => exact True.intro
  | @cons p q ps qs h t ih =>
    obtain ⟨h1, h2⟩ := h
    by_cases e : p.1 = k
    · have e' : q.1 = k := h1.symm.trans e
      have b : valueAt (q :: qs) k = some q.2 := by simp [valueAt, List.find?_cons, e']
      rw [valV_pos e, b]; exact h2
    · have e' : ¬ q.1 = k := fun z => e (h1.trans z)
      have b : valueAt (q :: qs) k = valueAt qs k := by simp [valueAt, List.find?_cons, e']
      rw [valV_neg e, b]; exact ih
theorem KV.any {kvs : List (κ × V)} {vs : List (κ × Value)} (r : KV kvs vs) (k : κ) : (kvs.any fun kv => decide (kv.1 = k)) = vs.any fun kv => decide (kv.1 = k) := by
  unfold KV at r
  induction r with
  | nil => rfl
  | cons h t ih => rw [List.any_cons, List.any_cons, ih, h.1]
theorem KV.repl {kvs : List (κ × V)} {vs : List (κ × Value)} (r : KV kvs vs) (k : κ) {y : V} {u : Value} (ry : RelV y u) :
    KV (kvs.map fun kv => if kv.1 = k then (kv.1, y) else kv) (vs.map fun kv => if kv.1 = k then (kv.1, u) else kv) := by
  unfold KV at r ⊢
  induction r with
  | nil => exact .nil
  | @cons p q ps qs h t ih =>
    rw [List.map_cons, List.map_cons]
    refine .cons ?_ ih
    obtain ⟨h1, h2⟩ := h
    by_cases e : p.1 = k
    · rw [if_pos e, if_pos (h1.symm.trans e)]; exact ⟨h1, ry⟩
    · rw [if_neg e, if_neg (fun z => e (h1.trans z))]; exact ⟨h1, h2⟩
theorem KV.put {kvs : List (κ × V)} {vs : List (κ × Value)} (r : KV kvs vs) (k : κ) {y : V} {u : Value} (ry : RelV y u) : KV (putK kvs k y) (stored vs k u) := by
  unfold putK stored
  rw [r.any k]
  by_cases e : (vs.any fun kv => decide (kv.1 = k)) = true
  · rw [if_pos e, if_pos e]; exact r.repl k ry
  · rw [if_neg e, if_neg e]; exact Paired.snoc r ⟨rfl, ry⟩
theorem KV.keys {kvs : List (κ × V)} {vs : List (κ × Value)} (r : KV kvs vs) : kvs.map (·.1) = vs.map (·.1) := by
  unfold KV at r
  induction r with
  | nil => rfl
  | cons h t ih => rw [List.map_cons, List.map_cons, ih, h.1]
theorem KV.length {kvs : List (κ × V)} {vs : List (κ × Value)} (r : KV kvs vs) : kvs.length = vs.length := Paired.length r
end


/-! ### a tracked dict, its keys ints and texts or tuples of these -/
theorem kV_is {P : Program} {w : World} {k : Key} {u : Value} (r : RelV (kV k) u) : (mixKind P w).is k u = true := by
  cases k with
  | inl i => obtain ⟨t, e⟩ := (show ∃ t, u = Value.int i t from r); subst e; exact mixKind_int P w i t
  | inr x => obtain ⟨t, e⟩ := (show ∃ t, u = Value.str x t from r); subst e; exact mixKind_str P w x t
theorem items_are {P : Program} {w : World} : ∀ {ks : List Key} {us : List Value}, Vals (ks.map kV) us → ItemsAre (mixKind P w) ks us
  | [], _, r => by rw [List.map_nil] at r; cases r; exact .nil
  | k :: ks, _, r => by
    rw [List.map_cons] at r
    cases r with
    | cons h t => exact .cons (kV_is h) (items_are t)

/-- raw entries of a dict with tuple keys -/
abbrev KT (H : Hp) : List (List Key × V) → List (List Key × Addr × Value) → Prop := Paired fun p q => p.1 = q.1 ∧ H q.2.1 = some (.tup (p.1.map kV)) ∧ RelV p.2 q.2.2
theorem KT.val {H : Hp} {kvs : List (List Key × V)} {xs : List (List Key × Addr × Value)} (r : KT H kvs xs) (k : List Key) : RelO (valV kvs k) ((atKey xs k).map (·.2)) := by
  induction r with
  | nil => exact True.intro
  | @cons p q ps qs h t ih =>
    obtain ⟨h1, _, h2⟩ := h
    by_cases e : p.1 = k
    · have e' : q.1 = k := h1.symm.trans e
      have b : atKey (q :: qs) k = some q.2 := by simp [atKey, List.find?_cons, e']
      rw [valV_pos e, b]; exact h2
    · have e' : ¬ q.1 = k := fun z => e (h1.trans z)
      have b : atKey (q :: qs) k = atKey qs k := by simp [atKey, List.find?_cons, e']
      rw [valV_neg e, b]; exact ih
theorem KT.repl {H : Hp} {kvs : List (List Key × V)} {xs : List (List Key × Addr × Value)} (r : KT H kvs xs) (k : List Key) {y : V} {u : Value} (ry : RelV y u) :
    KT H (kvs.map fun kv => if kv.1 = k then (kv.1, y) else kv) (xs.map (putAt k u)) := by
  induction r with
  | nil => exact .nil
  | @cons p q ps qs h t ih =>
    rw [List.map_cons, List.map_cons]
    refine .cons ?_ ih
    obtain ⟨h1, h2, h3⟩ := h
    unfold putAt
    by_cases e : p.1 = k
    · rw [if_pos e, if_pos (h1.symm.trans e)]; exact ⟨h1, h2, ry⟩
    · rw [if_neg e, if_neg (fun z => e (h1.trans z))]; exact ⟨h1, h2, h3⟩
theorem KT.put {H : Hp} {kvs : List (List Key × V)} {xs : List (List Key × Addr × Value)} (r : KT H kvs xs) (k : List Key) {b : Addr} {y : V} {u : Value} (hb : H b = some (.tup (k.map kV))) (ry : RelV y u) :
    KT H (putK kvs k y) (storedH xs k b u) := by
  have e : (kvs.any fun kv => decide (kv.1 = k)) = (atKey xs k).isSome := by
    rw [valV_any, (r.val k).isSome_eq, Option.isSome_map]
  unfold putK storedH
  rw [e]
  by_cases q : (atKey xs k).isSome = true
  · rw [if_pos q, if_pos q]; exact r.repl k ry
  · rw [if_neg q, if_neg q]; exact Paired.snoc r ⟨rfl, hb, ry⟩
theorem KT.keeps {H H' : Hp} {kvs : List (List Key × V)} {xs : List (List Key × Addr × Value)} (r : KT H kvs xs) (ht : ∀ b ys, H b = some (.tup ys) → H' b = some (.tup ys)) : KT H' kvs xs :=
  Paired.mapP r fun _ _ z => ⟨z.1, ht _ _ z.2.1, z.2.2⟩

section
variable {P : Program} {w : World} {H : Hp} {h : Heap} {a : Addr}
theorem rd_of {u : HO} (ok : HOk P w H h) (e : Rd H a u) : ObjOk P w H h a u := e.ok ok
theorem dk_rd {kvs : List (Key × V)} (ok : HOk P w H h) (e : Rd H a (.dK kvs)) : kvs.length ≤ sizeLine ∧ (a == sysModules) = false ∧ ∃ vs, KV kvs vs ∧ h.DictOf (mixKind P w) a vs :=
  show ObjOk P w H h a (.dK kvs) from rd_of ok e
theorem dk_of {kvs : List (Key × V)} (ok : HOk P w H h) (e : H a = some (.dK kvs)) : kvs.length ≤ sizeLine ∧ (a == sysModules) = false ∧ ∃ vs, KV kvs vs ∧ h.DictOf (mixKind P w) a vs := dk_rd ok (.inl e)
/-- a tracked tuple of ints and texts is a key -/
theorem key_of {ks : List Key} (ok : HOk P w H h) (e : H a = some (.tup (ks.map kV))) : (tupleKind (mixKind P w)).is h ks a := by
  obtain ⟨_, its, r, o, h1, h2, n, h3⟩ := (show ObjOk P w H h a (.tup (ks.map kV)) from ok a _ e)
  exact ⟨o, its.toArray, n, h1, h2, h3, by simpa using items_are r⟩
theorem dt_rd {kvs : List (List Key × V)} (ok : HOk P w H h) (e : Rd H a (.dT kvs)) : kvs.length ≤ sizeLine ∧ (a == sysModules) = false ∧
    ∃ xs, KT H kvs xs ∧ h.DictOfH (tupleKind (mixKind P w)) a xs := by
  obtain ⟨z, y, xs, r, o, es, ep, h1, h2, h3, h4, h5⟩ := (show ObjOk P w H h a (.dT kvs) from rd_of ok e)
  refine ⟨z, y, xs, r, o, es, ep, h1, h2, h3, h4, fun x hx => ?_, h5⟩
  have all : ∀ {l : List (List Key × V)} {m : List (List Key × Addr × Value)}, KT H l m → ∀ x ∈ m, (tupleKind (mixKind P w)).is h x.1 x.2.1 := by
    intro l m q
    induction q with
    | nil => intro x hx; exact nomatch hx
    | @cons p q ps qs hq t ih =>
      intro x hx
      rcases List.mem_cons.mp hx with e | hx
      · subst e
        exact key_of ok (by rw [← hq.1]; exact hq.2.1)
      · exact ih x hx
  exact all r x hx
theorem dt_of {kvs : List (List Key × V)} (ok : HOk P w H h) (e : H a = some (.dT kvs)) : kvs.length ≤ sizeLine ∧ (a == sysModules) = false ∧
    ∃ xs, KT H kvs xs ∧ h.DictOfH (tupleKind (mixKind P w)) a xs := dt_rd ok (.inl e)
end

/-- what the dict at a holds at the key y -/
def DGet (H : Hp) (a : Addr) (y : V) (r : Option V) : Prop :=
  (∃ kvs k, Rd H a (.dK kvs) ∧ y = kV k ∧ r = valV kvs k) ∨ ∃ kvs k b, Rd H a (.dT kvs) ∧ y = .ref b ∧ H b = some (.tup (k.map kV)) ∧ r = valV kvs k
/-- the heap behind a[y] = v -/
def DPut (H : Hp) (a : Addr) (y v : V) (H' : Hp) : Prop :=
  (∃ kvs k, H a = some (.dK kvs) ∧ y = kV k ∧ kvs.length < sizeLine ∧ H' = upd H a (.dK (putK kvs k v))) ∨
  ∃ kvs k b, H a = some (.dT kvs) ∧ y = .ref b ∧ H b = some (.tup (k.map kV)) ∧ kvs.length < sizeLine ∧ H' = upd H a (.dT (putK kvs k v))
theorem DGet.k {H : Hp} {a : Addr} {kvs : List (Key × V)} {k : Key} (e : H a = some (.dK kvs)) : DGet H a (kV k) (valV kvs k) := .inl ⟨kvs, k, .inl e, rfl, rfl⟩
theorem DPut.k {H : Hp} {a : Addr} {kvs : List (Key × V)} {k : Key} {v : V} (e : H a = some (.dK kvs)) (hl : kvs.length < sizeLine) : DPut H a (kV k) v (upd H a (.dK (putK kvs k v))) := .inl ⟨kvs, k, e, rfl, hl, rfl⟩
section
variable {X : Cx} {pins : List (Addr × Obj)} {σ : St} {H : Hp} {s : Shared} {a : Addr} {y v : V} {u r : Value} {o : Option V} {A : Around} {E : Value → Shared → Prop}

theorem Inv.big (I : Inv X pins σ H s) : sysModules < s.heap.objs.size := by
  have h : mainGlobals < s.heap.objs.size := (I.mod.glob.keeps I.bk).lt
  exact Nat.lt_trans (by decide) h

/-- d[y], there -/
theorem d_getItem {Q : Value → Shared → Prop} (hu : A.units + 1 < cLine) (I : Inv X pins σ H s) (g : DGet H a y (some v)) (ry : RelV y u) (h : ∀ w' s', Inv X pins σ H s' → RelV v w' → Q w' s') :
    wpAny (model X.prog X.w) A (getItem (.ref a) u) Q E s := by
  rcases g with ⟨kvs, k, e, ey, l⟩ | ⟨kvs, k, b, e, ey, eb, l⟩
  · subst ey
    obtain ⟨z, hd, vs, rel, dd⟩ := dk_rd I.hok e
    obtain ⟨w', hw, rw'⟩ := RelO.some_of (v := v) (o := valueAt vs k) (by rw [l]; exact rel.val k)
    exact wpAny_getItem_of (kV_is ry) dd.mapOf hw (h w' _ (I.tok _) rw')
  · subst ey
    cases (show u = Value.ref b from ry)
    obtain ⟨z, hd, xs, rel, dd⟩ := dt_rd I.hok e
    obtain ⟨w', hw, rw'⟩ := RelO.some_of (v := v) (o := (atKey xs k).map (·.2)) (by rw [l]; exact rel.val k)
    obtain ⟨p, hp, hp2⟩ := Option.map_eq_some_iff.mp hw
    refine wpAny_getItem_heap (tupleKind_room_in1 hu) (key_of I.hok eb) dd hp ?_
    rw [hp2]
    exact h w' _ (I.tok _) rw'
/-- y in d -/
theorem d_in {Q : Value → Shared → Prop} (hu : A.units + 1 < cLine) (I : Inv X pins σ H s) (g : DGet H a y o) (ry : RelV y u) (h : ∀ s', Inv X pins σ H s' → Q (.bool o.isSome) s') :
    wpAny (model X.prog X.w) A (compareOp .In u (.ref a)) Q E s := by
  rcases g with ⟨kvs, k, e, ey, l⟩ | ⟨kvs, k, b, e, ey, eb, l⟩
  · subst ey
    obtain ⟨z, hd, vs, rel, dd⟩ := dk_rd I.hok e
    refine wpAny_in_of (kV_is ry) hd dd.mapOf ?_
    rw [← (rel.val k).isSome_eq, ← l]
    exact h _ (I.tok _)
  · subst ey
    cases (show u = Value.ref b from ry)
    obtain ⟨z, hd, xs, rel, dd⟩ := dt_rd I.hok e
    refine wpAny_in_heap (tupleKind_room_in1 hu) (key_of I.hok eb) hd dd ?_
    have q := (rel.val k).isSome_eq
    rw [Option.isSome_map] at q
    rw [← q, ← l]
    exact h _ (I.tok _)
/-- a dict's object is replaced -/
theorem d_write {h' : Heap} {t' : Nat} {ob : HO} (I : Inv X pins σ H s) (mu : Mut (H a)) (hs : Heap.SameBut a s.heap h') (he : ∃ q, h'.get? a = some q) (new : ObjOk X.prog X.w (upd H a ob) h' a ob) :
    Inv X pins σ (upd H a ob) { s with heap := h', toks := t' } :=
  I.write (x := a) (e := a) mu (.inl rfl) (fun b q hb z => (hs.2 b hb).trans z) he new
theorem dk_new {P : Program} {w : World} {H' : Hp} {h' : Heap} {kvs : List (Key × V)} {vs : List (Key × Value)} (z : kvs.length ≤ sizeLine) (hd : (a == sysModules) = false) (rel : KV kvs vs) (dd : h'.DictOf (mixKind P w) a vs) :
    ObjOk P w H' h' a (.dK kvs) := ⟨z, hd, vs, rel, dd⟩
/-- d[y] = v -/
theorem d_setItem {H' : Hp} {Q : Unit → Shared → Prop} (hu : A.units + 1 < cLine) (I : Inv X pins σ H s) (g : DPut H a y v H') (ry : RelV y u) (rv : RelV v r) (h : ∀ s', Inv X pins σ H' s' → Q () s') :
    wpAny (model X.prog X.w) A (setItem (.ref a) u r) Q E s := by
  rcases g with ⟨kvs, k, e, ey, l, eH⟩ | ⟨kvs, k, b, e, ey, eb, l, eH⟩
  · subst ey eH
    obtain ⟨z, hd, vs, rel, dd⟩ := dk_of I.hok e
    have hz : vs.length ≤ sizeLine := by rw [← rel.length]; exact z
    have hl : (putK kvs k v).length ≤ sizeLine := by have := length_putK kvs k v; omega
    refine wpAny_setItem_pairs (hsz := hz) (kV_is ry) dd fun h' dd' hs => h _ ?_
    have he : ∃ q, h'.get? a = some q := let ⟨q, _, _, hq, _⟩ := dd'; ⟨q, hq⟩
    exact d_write I (by rw [e]; exact True.intro) hs he (dk_new hl hd (rel.put k rv) dd')
  · subst ey eH
    cases (show u = Value.ref b from ry)
    obtain ⟨z, hd, xs, rel, dd⟩ := dt_of I.hok e
    have hz : xs.length ≤ sizeLine := by rw [← Paired.length rel]; exact z
    have hl : (putK kvs k v).length ≤ sizeLine := by have := length_putK kvs k v; omega
    refine wpAny_setItem_heap (hsz := hz) (tupleKind_room_in1 hu) (key_of I.hok eb) dd fun h' dd' hs => h _ ?_
    obtain ⟨q, es, ep, hq, h2, h3, h4, _, h5⟩ := dd'
    refine d_write I (by rw [e]; exact True.intro) hs ⟨q, hq⟩ ⟨hl, hd, _, (rel.put k eb rv).keeps fun c ys ec => ?_, q, es, ep, hq, h2, h3, h4, h5⟩
    rw [upd_ne (ne_of ec e (fun z => nomatch z))]
    exact ec
end

section
variable {X : Cx} {pins : List (Addr × Obj)} {σ : St} {H : Hp} {s : Shared} {a : Addr} {kvs : List (Key × V)} {k : Key} {u : Value} {A : Around} {E : Value → Shared → Prop}
end


/-! ### readings and rules -/
/-- the element of a subscription, not a slice -/
def NoSl (i : Expr) : Prop := ∀ ov iv, subscripted i false ov iv = operate [ov, iv] (getItem ov iv)
theorem subD_of {prog : Program} {w : World} {A : Around} {E : Value → Shared → Prop} {s : Shared} {env : Env} {value slice : Expr} {pos : Pos} {T id : String} {Q : Value → Shared → Prop}
    (hl : typeLookup (.type T) "__getitem__" = pure (some (.builtin id))) (hs : NoSl slice)
    (h : wpAny (model prog w) A (eval value env) (fun o s₁ => wpAny (model prog w) A (eval slice env) (fun i s₂ => s₂.TypeIs o T ∧ wpAny (model prog w) A (getItem o i) Q E s₂) E s₁) E s) :
    wpAny (model prog w) A (eval (.Subscript value slice pos) env) Q E s := by
  refine Subscript_ (wpAny_mono h (fun o s₁ h₁ => wpAny_mono h₁ (fun i s₂ h₂ => ?_) fun _ _ x => x) fun _ _ x => x)
  obtain ⟨hT, h₂⟩ := h₂
  unfold subscriptTail
  refine wpAny_bind ?_
  rw [getitemInPython_of_ne hT.not_modules]
  refine wpAny_bind (wpAny_specialOf hT hl ?_)
  have fin : wpAny (model prog w) A (subscripted slice false o i) (fun r s₃ => wpAny (model prog w) A (letTemporaryGo value o r >>= fun _ => pure r) Q E s₃) E s₂ := by
    rw [hs o i]
    exact wpAny_operating (wpAny_mono h₂ (fun r s₃ h₃ => wpAny_bind (wpAny_letTemporaryGo (wpAny_pure h₃))) fun _ _ x => x)
  first
    | exact wpAny_pure (wpAny_bind fin)
    | exact wpAny_bind (wpAny_pure (wpAny_bind fin))
    | exact wpAny_bind fin

theorem dict_typeIs {X : Cx} {pins : List (Addr × Obj)} {σ : St} {H : Hp} {s : Shared} {a : Addr} {y : V} {o : Option V} (I : Inv X pins σ H s) (g : DGet H a y o) : s.TypeIs (.ref a) "dict" := by
  rcases g with ⟨kvs, k, e, _, _⟩ | ⟨kvs, k, b, e, _, _, _⟩
  · obtain ⟨_, _, vs, _, dd⟩ := dk_rd I.hok e
    exact dd.typeIs
  · obtain ⟨_, _, xs, _, dd⟩ := dt_rd I.hok e
    exact dd.typeIs
/-- d[y] -/
def tDGet (td ty : TE) : TE := fun σ H Q => td σ H fun x H1 => ty σ H1 fun y H2 => ∃ a v, x = .ref a ∧ DGet H2 a y (some v) ∧ Q v H2
/-- y in d, y not in d -/
def tDIn (ty td : TE) : TE := fun σ H Q => ty σ H fun y H1 => td σ H1 fun x H2 => ∃ a o, x = .ref a ∧ DGet H2 a y o ∧ Q (.bl o.isSome) H2
def tDNotIn (ty td : TE) : TE := fun σ H Q => ty σ H fun y H1 => td σ H1 fun x H2 => ∃ a o, x = .ref a ∧ DGet H2 a y o ∧ Q (.bl (!o.isSome)) H2
/-- d[y] = v -/
def sDPut (td ty tv : TE) : TS := fun D σ H => tv σ H fun v H1 => td σ H1 fun x H2 => ty σ H2 fun y H3 => ∃ a H4, x = .ref a ∧ DPut H3 a y v H4 ∧ D.nx σ H4
/-- d[y] op= v -/
def sDAug (td ty tv : TE) (rd : V → V → Hp → VK → Prop) : TS := fun D σ H => td σ H fun x H1 => ty σ H1 fun y H2 => ∃ a v, x = .ref a ∧ DGet H2 a y (some v) ∧
  tv σ H2 fun y2 H3 => rd v y2 H3 fun z H4 => ∃ H5, DPut H4 a y z H5 ∧ D.nx σ H5
/-- del d[y] -/
def sDDel (td ty : TE) : TS := fun D σ H => td σ H fun x H1 => ty σ H1 fun y H2 => ∃ a kvs k, x = .ref a ∧ H2 a = some (.dK kvs) ∧ y = kV k ∧ (valV kvs k).isSome = true ∧ D.nx σ (upd H2 a (.dK (dropK kvs k)))

section
variable {X : Cx} {o i e value : Expr} {pos pos' tpos : Pos} {td ty tv : TE}
theorem pe_dget (hu : X.A.units + 1 < cLine) (ho : PE X o td) (hi : PE X i ty) (hs : NoSl i) : PE X (.Subscript o i pos) (tDGet td ty) := by
  intro pins s σ H Q I h
  refine subD_of PySem.F.slot_dict_getitem.lookup hs (thn (ho pins s σ H _ I h) fun u s1 ⟨x, H1, I1, rx, q1⟩ => thn (hi pins s1 σ H1 _ I1 q1) fun iv s2 ⟨y, H2, I2, ry, a, v, ex, g, q2⟩ => ?_)
  subst ex
  obtain rfl : u = Value.ref a := rx
  exact ⟨dict_typeIs I2 g, d_getItem hu I2 g ry fun w' s3 I3 rw' => ⟨v, H2, I3, rw', q2⟩⟩
theorem pc_din (hu : X.A.units + 1 < cLine) (hi : PE X i ty) (ho : PE X o td) : PC X .In i o (tDIn ty td) := by
  intro pins s σ H Q I h
  refine thn (hi pins s σ H _ I h) fun iv s1 ⟨y, H1, I1, ry, q1⟩ => thn (ho pins s1 σ H1 _ I1 q1) fun u s2 ⟨x, H2, I2, rx, a, ov, ex, g, q2⟩ => ?_
  subst ex
  obtain rfl : u = Value.ref a := rx
  exact d_in hu I2 g ry fun s3 I3 => ⟨.bl ov.isSome, H2, I3, rfl, q2⟩
theorem ps_dput (hu : X.A.units + 1 < cLine) (ho : PE X o td) (hi : PE X i ty) (hv : PE X value tv) (hs : swapsWith value (some (.Subscript o i pos')) pos.line X.env = pure false) :
    PS X (.Assign [.Subscript o i pos'] value pos) (sDPut td ty tv) := by
  intro pins s σ H D I h
  refine wpAny_Assign_Subscript (thn (hv pins s σ H _ I h) fun r s1 ⟨v, H1, I1, rv, q1⟩ => thn (ho pins s1 σ H1 _ I1 q1) fun u s2 ⟨x, H2, I2, rx, q2⟩ => thn (hi pins s2 σ H2 _ I2 q2) fun iv s3 ⟨y, H3, I3, ry, a, H4, ex, g, q3⟩ => ?_) hs
  subst ex
  obtain rfl : u = Value.ref a := rx
  exact d_setItem hu I3 g ry rv fun s4 I4 => ⟨σ, H4, I4, q3⟩
end


/-! ### displays -/
theorem dk_empty {P : Program} {w : World} {H : Hp} (h : Heap) (hb : sysModules < h.objs.size) : ObjOk P w H (h.push { cls := .type "dict", data := .dict #[] }) h.objs.size (.dK []) :=
  ⟨Nat.zero_le _, beq_eq_false_iff_ne.mpr (Ne.symm (Nat.ne_of_lt hb)), [], .nil, Heap.DictOf.new h⟩
/-- {}, to be a dict of the kind that is wanted -/
def tDNewK : TE := fun _ H Q => ∀ p, H p = none → Q (.ref p) (upd H p (.dK []))
def tDNewT : TE := fun _ H Q => ∀ p, H p = none → Q (.ref p) (upd H p (.dT []))
section
variable {X : Cx} {pos : Pos}
end

/-- the pairs of a display, from the left -/
def tPairs : List (TE × TE) → St → Hp → (List (V × V) → Hp → Prop) → Prop
  | [], _, H, Q => Q [] H
  | (tk, tv) :: r, σ, H, Q => tk σ H fun x H1 => tv σ H1 fun y H2 => tPairs r σ H2 fun ps H3 => Q ((x, y) :: ps) H3
abbrev VV : List (V × V) → List (Value × Value) → Prop := Paired fun p q => RelV p.1 q.1 ∧ RelV p.2 q.2
def PPs (X : Cx) (pos : Pos) (keys : List (Option Expr)) (values : List Expr) (trs : List (TE × TE)) : Prop :=
  ∀ (pins : List (Addr × Obj)) (s : Shared) (σ : St) (H : Hp) (Q : List (V × V) → Hp → Prop), Inv X pins σ H s → tPairs trs σ H Q →
    wpAny (model X.prog X.w) X.A (evalPairs (pairTrees keys values X.env pos)) (fun vs s' => ∃ ps H', Inv X pins σ H' s' ∧ VV ps vs ∧ Q ps H') X.xe s
theorem pps_nil {X : Cx} {pos : Pos} : PPs X pos [] [] [] := fun pins s σ H Q I h => pairTrees_nil_walk ⟨[], H, I, .nil, h⟩
theorem pps_cons {X : Cx} {pos : Pos} {k v : Expr} {ks : List (Option Expr)} {vs : List Expr} {tk tv : TE} {trs : List (TE × TE)} (hk : PE X k tk) (hv : PE X v tv) (hr : PPs X pos ks vs trs) :
    PPs X pos (some k :: ks) (v :: vs) ((tk, tv) :: trs) := fun pins s σ H Q I h =>
  pairTrees_cons_walk (thn (hk pins s σ H _ I h) fun u s1 ⟨x, H1, I1, rx, q1⟩ => thn (hv pins s1 σ H1 _ I1 q1) fun w2 s2 ⟨y, H2, I2, ry, q2⟩ =>
    thn (hr pins s2 σ H2 _ I2 q2) fun ws s3 ⟨ps, H3, I3, rel, q3⟩ => ⟨(x, y) :: ps, H3, I3, .cons ⟨rx, ry⟩ rel, q3⟩)

def mergeK (kvs more : List (Key × V)) : List (Key × V) := more.foldl (fun acc kv => putK acc kv.1 kv.2) kvs
theorem KV.merge : ∀ {more : List (Key × V)} {rs : List (Key × Value)} {kvs : List (Key × V)} {vs : List (Key × Value)}, KV more rs → KV kvs vs → KV (mergeK kvs more) (merged vs rs) := by
  intro more rs kvs vs r
  unfold KV at r
  induction r generalizing kvs vs with
  | nil => intro q; exact q
  | @cons p q ps qs h t ih =>
    intro r0
    have e : KV (putK kvs p.1 p.2) (stored vs q.1 q.2) := by
      have := r0.put p.1 h.2
      rw [← h.1]; exact this
    exact ih e
theorem length_mergeK : ∀ (more kvs : List (Key × V)), (mergeK kvs more).length ≤ kvs.length + more.length
  | [], kvs => by show kvs.length ≤ kvs.length + 0; omega
  | p :: r, kvs => by
    have h1 := length_mergeK r (putK kvs p.1 p.2)
    have h2 := length_putK kvs p.1 p.2
    show (mergeK (putK kvs p.1 p.2) r).length ≤ _
    rw [List.length_cons]; omega
theorem carries_of {P : Program} {w : World} : ∀ {kvs : List (Key × V)} {ws : List (Value × Value)}, VV (kvs.map fun kv => (kV kv.1, kv.2)) ws → ∃ rs, Carries (mixKind P w) ws rs ∧ KV kvs rs
  | [], _, r => by rw [List.map_nil] at r; cases r; exact ⟨[], True.intro, .nil⟩
  | p :: kvs, _, r => by
    rw [List.map_cons] at r
    cases r with
    | @cons a b as bs h t =>
      obtain ⟨rs, c, q⟩ := carries_of (P := P) (w := w) t
      obtain ⟨b1, b2⟩ := b
      exact ⟨(p.1, b2) :: rs, ⟨kV_is h.1, rfl, c⟩, .cons ⟨rfl, h.2⟩ q⟩
/-- {k: v, ..} with keys ints and texts; the new dict stands empty while the pairs are made -/
def tDisp (trs : List (TE × TE)) : TE := fun σ H Q => ∀ p, H p = none → tPairs trs σ (upd H p (.dK [])) fun ps H2 => H2 p = some (.dK []) ∧ ∃ kvs : List (Key × V), ps = kvs.map (fun kv => (kV kv.1, kv.2)) ∧ kvs.length ≤ 15 ∧ Q (.ref p) (upd H2 p (.dK (mergeK [] kvs)))
theorem pe_disp {X : Cx} {pos : Pos} {keys : List (Option Expr)} {values : List Expr} {trs : List (TE × TE)} (h : PPs X pos keys values trs) (hall : keys.all (·.isSome) = true) (hl : keys.length = values.length) (h0 : keys ≠ [])
    (h15 : keys.length ≤ 15) : PE X (.Dict keys values pos) (tDisp trs) := by
  intro pins s σ H Q I q
  have hn := I.hok.fresh (Nat.le_refl s.heap.objs.size)
  have I1 := I.laid (a := s.heap.objs.size) (o := .dK []) (h' := s.heap.push { cls := .type "dict", data := .dict #[] }) (t' := s.toks) (fun _ _ q => Heap.get?_push_of_some _ q) (Nat.le_refl _) (dk_empty s.heap I.big)
  refine wpAny_Dict_walk (knd := mixKind X.prog X.w) hall hl h0 h15 (thn (h pins _ σ _ _ I1 (q _ hn)) fun ws s2 ⟨ps, H2, I2, rel, e, kvs, ep, lk, q2⟩ => ?_)
  subst ep
  obtain ⟨rs, c, rk⟩ := carries_of (P := X.prog) (w := X.w) rel
  obtain ⟨z, hd, vs0, r0, dd⟩ := dk_of I2.hok e
  cases r0
  refine ⟨rs, c, dd, fun h' dd' hs => ⟨.ref s.heap.objs.size, _, ?_, rfl, q2⟩⟩
  have hz : (mergeK [] kvs).length ≤ sizeLine := by
    have h1 := length_mergeK kvs []
    rw [List.length_nil] at h1
    rw [sizeLine_eq]; omega
  have he : ∃ q, h'.get? s.heap.objs.size = some q := let ⟨q, _, _, hq, _⟩ := dd'; ⟨q, hq⟩
  exact d_write I2 (by rw [e]; exact True.intro) hs he (dk_new hz hd (rk.merge .nil) dd')


/-! ### methods -/
/-- a method call o.m(e) of a built-in, with one argument: what must be seen of the text -/
structure M1 (X : Cx) (o : Expr) (m : Str) (apos : Pos) (e : Expr) (cpos : Pos) : Prop where
  base : attributeBase o m X.env (eval o X.env) = eval o X.env
  few : ((backTo cpos (starEach [e] X.env)).all (fun x => !x.1) && (backToKw cpos (keywordEach [] X.env)).all (fun x => x.1.isSome)
    && decide (([e] : List Expr).length + ([] : List Keyword).length + (if ([] : List Keyword).isEmpty then 0 else 1) < 30)) = true
  line : (apos.endLine == cpos.line) = true
  trees : backTo cpos (starEach [e] X.env) = [(false, eval e X.env)]
structure M2 (X : Cx) (o : Expr) (m : Str) (apos : Pos) (e f : Expr) (cpos : Pos) : Prop where
  base : attributeBase o m X.env (eval o X.env) = eval o X.env
  few : ((backTo cpos (starEach [e, f] X.env)).all (fun x => !x.1) && (backToKw cpos (keywordEach [] X.env)).all (fun x => x.1.isSome)
    && decide (([e, f] : List Expr).length + ([] : List Keyword).length + (if ([] : List Keyword).isEmpty then 0 else 1) < 30)) = true
  line : (apos.endLine == cpos.line) = true
  trees : backTo cpos (starEach [e, f] X.env) = [(false, eval e X.env), (false, eval f X.env)]

/-- a is a dict, whatever its keys -/
def IsD (H : Hp) (a : Addr) : Prop := (∃ kvs, Rd H a (.dK kvs)) ∨ ∃ kvs, Rd H a (.dT kvs)
section
variable {X : Cx} {pins : List (Addr × Obj)} {σ : St} {H : Hp} {s : Shared} {a : Addr} {y d : V} {u r : Value} {o : Option V} {A : Around} {E : Value → Shared → Prop}
end

def tDGet1 (td ty : TE) : TE := fun σ H Q => td σ H fun x H1 => ∃ a, x = .ref a ∧ IsD H1 a ∧ ty σ H1 fun y H2 => ∃ o, DGet H2 a y o ∧ Q (o.getD .non) H2
def tDGet2 (td ty tx : TE) : TE := fun σ H Q => td σ H fun x H1 => ∃ a, x = .ref a ∧ IsD H1 a ∧ ty σ H1 fun y H2 => tx σ H2 fun z H3 => ∃ o, DGet H3 a y o ∧ Q (o.getD z) H3
/-- d.pop(k): there; d.pop(k, x): there or not -/
def tDPop1 (td ty : TE) : TE := fun σ H Q => td σ H fun x H1 => ∃ a, x = .ref a ∧ IsD H1 a ∧ ty σ H1 fun y H2 => ∃ kvs k v, H2 a = some (.dK kvs) ∧ y = kV k ∧ valV kvs k = some v ∧ Q v (upd H2 a (.dK (dropK kvs k)))
def tDPop2 (td ty tx : TE) : TE := fun σ H Q => td σ H fun x H1 => ∃ a, x = .ref a ∧ IsD H1 a ∧ ty σ H1 fun y H2 => tx σ H2 fun z H3 => ∃ kvs k, H3 a = some (.dK kvs) ∧ y = kV k ∧
  (∀ v, valV kvs k = some v → Q v (upd H3 a (.dK (dropK kvs k)))) ∧ (valV kvs k = none → Q z H3)
section
variable {X : Cx} {o e f : Expr} {apos cpos : Pos} {td ty tx : TE}
end

/-! ### dict(d): a copy -/
section
variable {X : Cx} {pins : List (Addr × Obj)} {σ : St} {H : Hp} {s : Shared} {a : Addr} {kvs : List (Key × V)} {A : Around} {E : Value → Shared → Prop}
end


section
variable {X : Cx} {pins : List (Addr × Obj)} {σ : St} {H : Hp} {s : Shared} {a : Addr} {y : V} {u : Value} {A : Around} {E : Value → Shared → Prop}
end
end L2

namespace L2
open PySem PySem.Spec PyProof.Rows

section
variable {prog : Program} {w : World} {A : Around} {E : Value → Shared → Prop}
end

section
variable {X : Cx}
end
end L2

namespace L2
open PySem PySem.Spec PyProof.Rows

section
variable {X : Cx} {pins : List (Addr × Obj)} {σ : St} {H : Hp} {s : Shared} {h' : Heap}
/-- several records of ours have turned -/
theorem Inv.turnedL {t' : Nat} {ch : List Addr} (I : Inv X pins σ H s) (k : ∀ b o, b ∉ ch → s.heap.get? b = some o → h'.get? b = some o) (hf : ∀ b ∈ ch, FpOk X pins H b) : Inv X pins σ H { s with heap := h', toks := t' } := by
  have nit : ∀ b u, H b = some u → b ∉ ch := fun b u e z => by
    have q := (hf b z).1
    rw [q] at e; cases e
  refine I.step (g' := s.gens) (d' := s.drawn) (ch := ch) (fun b hb => ⟨(hf b hb).2.2.2.1, (hf b hb).2.1, (hf b hb).2.2.2.2.1, (hf b hb).2.2.2.2.2⟩) (fun b o _ _ hc e _ => k b o hc e) (fun b o _ _ hc e _ => ⟨o.slots, k b o hc e⟩)
    (fun _ _ _ _ n => n) (fun b o hc e => ⟨o, k b o hc e⟩) (fun _ _ e => e) (fun _ _ _ e => e) (fun b ps e => ⟨#[], by rw [e]; simp⟩) (fun m hm => ?_) (fun b u e => ?_) I.bare
  · obtain ⟨o, es, ep, ho, r⟩ := hm
    exact ⟨o, es, ep, k _ o (fun z => (hf _ z).2.1 rfl) ho, r⟩
  · refine (I.hok b u e).stay (fun c v hc q => k c v ?_ q) (fun _ q => q) fun _ _ q => q
    rcases hc with z | z
    · rw [z]; exact nit b u e
    · exact nit c _ z
/-- .. and one new object is laid -/
theorem Inv.turnedNew {t' : Nat} {ch : List Addr} {T : Addr} {ob : HO} (I : Inv X pins σ H s) (k : ∀ b o, b ∉ ch → s.heap.get? b = some o → h'.get? b = some o) (hf : ∀ b ∈ ch, FpOk X pins H b) (hT : s.heap.objs.size ≤ T)
    (new : ObjOk X.prog X.w (upd H T ob) h' T ob) : Inv X pins σ (upd H T ob) { s with heap := h', toks := t' } := by
  have hn : H T = none := I.hok.fresh hT
  have nit : ∀ b u, H b = some u → b ∉ ch := fun b u e z => by
    have q := (hf b z).1
    rw [q] at e; cases e
  refine I.step (g' := s.gens) (d' := s.drawn) (ch := ch) (fun b hb => ⟨(hf b hb).2.2.2.1, (hf b hb).2.1, (hf b hb).2.2.2.2.1, (hf b hb).2.2.2.2.2⟩) (fun b o _ _ hc e _ => k b o hc e) (fun b o _ _ hc e _ => ⟨o.slots, k b o hc e⟩)
    (fun b o _ e n => ?_) (fun b o hc e => ⟨o, k b o hc e⟩) (fun b xs e => ?_) (fun b o u e => ?_) (fun b ps e => ⟨#[], ?_⟩) (fun m hm => ?_) (fun b u e => ?_) I.bare
  · rw [upd_ne (Nat.ne_of_lt (Nat.lt_of_lt_of_le (Heap.lt_size e) hT))]; exact n
  · rw [upd_ne (ne_of_none e hn)]; exact e
  · rw [upd_ne (ne_of_none e hn)]; exact e
  · rw [upd_ne (ne_of_none e hn), e]; simp
  · obtain ⟨o, es, ep, ho, r⟩ := hm
    exact ⟨o, es, ep, k _ o (fun z => (hf _ z).2.1 rfl) ho, r⟩
  · by_cases hb : b = T
    · subst hb
      rw [upd_same] at e
      cases e
      exact new
    · rw [upd_ne hb] at e
      refine (I.hok b u e).stay (fun c v hc q => k c v ?_ q) (fun c q => by rw [upd_ne (ne_of_none q hn)]; exact q) fun c xs q => by rw [upd_ne (ne_of_none q hn)]; exact q
      rcases hc with z | z
      · rw [z]; exact nit b u e
      · exact nit c _ z

/-! ### locking a thing while a statement runs -/
end
/-- the statement runs while the thing at d is locked (read, not written); d and what stands there are the reading's choice -/
def tLock (t : TS) : TS := fun D σ H => ∃ d u, H d = some u ∧ Mut (some u) ∧ ∀ od, t ⟨fun σ' H' => H' d = some (.frz od u) ∧ D.nx σ' (upd H' d u), fun v H' => H' d = some (.frz od u) ∧ D.rt v (upd H' d u), fun σ' H' => H' d = some (.frz od u) ∧ D.bk σ' (upd H' d u), fun σ' H' => H' d = some (.frz od u) ∧ D.ct σ' (upd H' d u)⟩ σ (upd H d (.frz od u))
def tLockE (t : TE) : TE := fun σ H Q => ∃ d u, H d = some u ∧ Mut (some u) ∧ ∀ od, t σ (upd H d (.frz od u)) fun v H' => H' d = some (.frz od u) ∧ Q v (upd H' d u)
section
variable {X : Cx}
/-! ### one iterator just laid -/
theorem pi_one {tg : Expr} {pins : List (Addr × Obj)} {σ : St} {H : Hp} {s : Shared} {R : It → Hp → Prop} {J : It} {tn : Nat → Heap → Prop} {tk : Nat} (I : Inv X pins σ H s) (o : Obj)
    (T : Turn X.prog X.w X.K tg J [s.heap.objs.size] s.heap.objs.size tn) (st : tn 0 (s.heap.push o)) (q : R J H) : PIE X pins σ tg R (.ref s.heap.objs.size) { s with heap := s.heap.push o, toks := tk } := by
  refine ⟨s.heap.objs.size, [s.heap.objs.size], tn, J, H, rfl, I.kept fun b ob e => Heap.get?_push_of_some _ e, T, st, fun b hb => ?_, q⟩
  have e : b = s.heap.objs.size := by simpa using hb
  subst e
  exact I.fpOk (Nat.le_refl _) (I.hok.fresh (Nat.le_refl _))
end

/-! ### range with a step -/
/-- lo, lo + c, .. (n of them) -/
def Itc (lo c : Int) (n : Nat) : It := ⟨fun i _ => i < n, fun i H x H' => H' = H ∧ x = .int (lo + (i : Nat) * c), fun i _ => n ≤ i⟩
/-- range(i, j, c): small bounds, n items -/
def RgC (i j c : Int) (n : Nat) : Prop := c ≠ 0 ∧ c.natAbs < 1073741824 ∧ Builtin.Range.small i j c = true ∧ Builtin.Range.rangeSize i j c = n
def iRng3 (ta : TA) : TI := fun σ H R => ta σ H fun vs H1 => ∃ (i j c : Int) (n : Nat), vs = [.int i, .int j, .int c] ∧ RgC i j c n ∧ R (Itc i c n) H1
section
variable {X : Cx} {tg : Expr}
end
/-! ### reversed(list) -/
/-- the list at a (n items at the start, which the loop leaves there), from its end -/
def Itv (K : PySem.W.Frag) (a : Addr) (n : Nat) : It :=
  ⟨fun i H => i < n ∧ ∃ (xs : List V) (x : V), SqL K H a xs ∧ xs[n - 1 - i]? = some x, fun i H x H' => H' = H ∧ ∀ xs, SqL K H a xs → xs[n - 1 - i]? = some x, fun i _ => n ≤ i⟩
def iRev (K : PySem.W.Frag) (ta : TA) : TI := fun σ H R => ta σ H fun vs H1 => ∃ (a : Addr) (xs : List V), vs = [.ref a] ∧ SqL K H1 a xs ∧ R (Itv K a xs.length) H1
section
variable {X : Cx} {tg : Expr}
end

/-! ### a str -/
def Its (x : Str) : It := ⟨fun i _ => i < x.cps.size, fun i H v H' => H' = H ∧ ∃ c, x.cps[i]? = some c ∧ v = .str ⟨#[c]⟩, fun i _ => x.cps.size ≤ i⟩
theorem turn_str {P : Program} {w : World} {K : PySem.W.Frag} {tg : Expr} (it : Addr) (x : Str) (t : Tok) (ty : String) (hty : ty = "str_ascii_iterator" ∨ ty = "str_iterator") :
    Turn P w K tg (Its x) [it] it (fun i h => h.IsStrIter it ty x t i) where
  mem := by simp
  obj := fun i h st b hb => by
    have e : b = it := by simpa using hb
    subst e
    obtain ⟨o, e, c, d⟩ := st
    exact ⟨o, e, fun v z => by rw [d] at z; cases z⟩
  keep := fun i h h' st k => let ⟨o, ho, r⟩ := st; ⟨o, k it (by simp) o ho, r⟩
  item := by
    intro X hP hw hK hc i pins s σ H E I hf st hg
    subst hP hw hK
    obtain ⟨f0, f1, f2, f3, f4, f5⟩ := hf it (by simp)
    have W : Walks X.prog X.w X.A it [it] [it] x.cps.size (SignAt x) (fun i h => h.IsStrIter it ty x t i) := by
      rcases hty with e | e
      · rw [e]; exact Walks.strAscii (I.ok.hd hc) it x t
      · rw [e]; exact Walks.strWide (I.ok.hd hc) it x t
    have hno : ["enumerate", "zip", "dict_itemiterator", "dict_reverseitemiterator", "odict_iterator", "itertools.zip_longest", "itertools.pairwise"].contains ty = false := by
      rcases hty with e | e
      · rw [e]; decide
      · rw [e]; decide
    refine W.item i s _ _ hg st fun v h' tk hv st' kk => ?_
    obtain ⟨c, u, hcx, rfl⟩ := hv
    have I1 : Inv X pins σ H { s with heap := h', toks := tk } := I.turned (fun b o hb e => kk b o (by simpa using hb) e) f0 f1 f3 f4 f5
    obtain ⟨oi, e, cc, dd⟩ := id st'
    exact ⟨_, rfl, go_of (s := { s with heap := h', toks := tk }) e cc dd hno ⟨.str ⟨#[c]⟩, H, I1, ⟨u, rfl⟩, ⟨rfl, c, hcx, rfl⟩, st', fun b hb => (hf b hb).1⟩⟩
  done := by
    intro X hP hw hK hc i pins s σ H E I hf st hg
    subst hP hw hK
    obtain ⟨f0, f1, f2, f3, f4, f5⟩ := hf it (by simp)
    have hx : x.cps[i]? = none := Array.getElem?_eq_none hg
    rcases hty with e | e
    · rw [e] at st
      exact wpAny_pyNext_ascii_end (I.ok.hd hc) st hx fun h' eb => ⟨rfl, I.turned (t' := s.toks) (fun b o hb e => eb b o hb e) f0 f1 f3 f4 f5⟩
    · rw [e] at st
      exact wpAny_pyNext_wide_end (I.ok.hd hc) st hx fun h' eb => ⟨rfl, I.turned (t' := s.toks) (fun b o hb e => eb b o hb e) f0 f1 f3 f4 f5⟩
  self := fun A i s Q E st h => by
    rcases hty with e | e
    · rw [e] at st; exact wpAny_pyIter_striter_ascii st h
    · rw [e] at st; exact wpAny_pyIter_striter_wide st h
def iStr (te : TE) : TI := fun σ H R => te σ H fun v H1 => ∃ x, v = .str x ∧ R (Its x) H1
theorem pi_str {X : Cx} {tg e : Expr} {te : TE} (he : PE X e te) : PI X tg e (iStr te) := by
  intro pins s σ H R I h
  refine thn (he pins s σ H _ I h) fun v s1 ⟨y, H1, I1, r1, x, ex, q⟩ => ?_
  subst ex
  obtain ⟨t, rfl⟩ := r1
  cases ha : x.cps.all (· < 128)
  · exact wpAny_pyIter_wide ha (pi_one (tk := s1.toks) I1 _ (turn_str _ x t "str_iterator" (.inr rfl)) ⟨_, Heap.get?_push_size _ rfl, rfl, rfl⟩ q)
  · exact wpAny_pyIter_ascii ha (pi_one (tk := s1.toks) I1 _ (turn_str _ x t "str_ascii_iterator" (.inl rfl)) ⟨_, Heap.get?_push_size _ rfl, rfl, rfl⟩ q)

/-! ### a dict's keys: any dict's entries -/
section
variable {prog : Program} {w : World} {A : Around} {E : Value → Shared → Prop} {s : Shared}
theorem iter_keys {d : Addr} {o : Obj} {es : Array DictEntry} {ep : Nat} {Q : Value → Shared → Prop} (hd : (d == sysModules) = false) (ho : s.heap.get? d = some o) (hc : o.ExactDict) (hdat : o.data = .dict es ep)
    (hQ : Q (.ref s.heap.objs.size) { s with heap := s.heap.push { cls := .type "dict_keyiterator", data := .fields #[.ref d, .int 0 0, .int es.size 0, .int ep 0] } }) :
    wpAny (model prog w) A (pyIter (.ref d)) Q E s := by
  have hT : s.TypeIs (.ref d) "dict" := ⟨o, ho, hc.1⟩
  refine wpAny_pyIter_slot hT F.slot_dict_iter (wpAny_call_entry F.slot_dict_iter hT F.entry_dict_iter ?_ (F.args_dict_iter_1 _))
  unfold Builtin.«dict.__iter__»
  refine wpAny_bind ?_
  unfold Builtin.Dict.dictSlotNone
  refine wpAny_bind (wpAny_notOrdered_dict hT ?_)
  show wpAny _ _ (pure (Value.ref d)) _ _ s
  refine wpAny_pure ?_
  show wpAny _ _ (Builtin.Dict.showsAll d >>= _) _ _ s
  unfold Builtin.Dict.showsAll
  rw [if_neg (by rw [hd]; exact Bool.false_ne_true)]
  refine wpAny_bind (wpAny_pure ?_)
  refine wpAny_bind (wpAny_dictEntries ho hdat ?_)
  refine wpAny_bind (wpAny_dictEpoch ho hdat ?_)
  refine wpAny_bind (wpAny_newObj_type (wpAny_pure ⟨_, rfl, "dict_keyiterator", _, ⟨_, Heap.get?_push_size _ rfl, rfl⟩, F.slot_dict_keyiterator_next.lookup, ?_⟩))
  simpa [rawInt] using hQ
theorem next_key_end {it d : Addr} {i n ep : Nat} {od : Obj} {es : Array DictEntry} {Q : Option Value → Shared → Prop} (hh : A.handled = none) (hit : s.heap.IsKeyIter it d i n ep) (hod : s.heap.get? d = some od) (hdd : od.data = .dict es ep)
    (hsz : es.size = n) (hge : n ≤ i) (hQ : ∀ h', Heap.ExtBut it s.heap h' → Q none { s with heap := h' }) : wpAny (model prog w) A (pyNext (.ref it)) Q E s := by
  obtain ⟨o, ho, hc, hd⟩ := id hit
  unfold pyNext
  refine wpAny_bind (wpAny_attempt (wpAny_callSpecial?_slot (name := Str.ofString "__next__") hit.typeIs F.slot_dict_keyiterator_next
    (wpAny_call_entry F.slot_dict_keyiterator_next hit.typeIs F.entry_dict_keyiterator_next ?_ (F.args_dict_keyiterator_next_1 _))))
  refine wpAny_bind (wpAny_pure ?_)
  refine wpAny_bind ?_
  refine wpAny_bind ?_
  first | refine wpAny_bind (wpAny_typeNameOfWhole_keyiter hit.typeIs (wpAny_pure ?_)) | refine wpAny_bind (wpAny_typeNameOf_keyiter hit.typeIs (wpAny_pure ?_))
  refine wpAny_bind (wpAny_fieldsOf ho hd ?_)
  have hown : Builtin.Dict_items.ownsTuple "dict_keyiterator" = false := by decide
  simp only [hown, Bool.false_eq_true, if_false]
  show wpAny _ _ (if (Value.ref d == Value.none) = true then _ else _) _ _ s
  rw [if_neg (show ¬ ((Value.ref d == Value.none) = true) from Bool.false_ne_true)]
  refine wpAny_bind (wpAny_pure ?_)
  refine wpAny_bind (wpAny_dictEntries hod hdd ?_)
  rw [if_neg (by rw [hsz]; simp)]
  refine wpAny_bind (wpAny_pure ?_)
  refine wpAny_bind (wpAny_dictEpoch hod hdd ?_)
  rw [if_neg (by simp)]
  refine wpAny_pure ?_
  have hge' : es.size ≤ i := by rw [hsz]; exact hge
  simp only [show ¬ ((i : Int) < 0) from by omega, if_false, Int.toNat_natCast, Array.getElem?_eq_none hge']
  refine wpAny_bind ?_
  first | refine wpAny_bind (wpAny_typeNameOfWhole_keyiter hit.typeIs (wpAny_pure ?_)) | refine wpAny_bind (wpAny_typeNameOf_keyiter hit.typeIs (wpAny_pure ?_))
  show wpAny _ _ (setField (.ref it) 0 .none >>= _) _ _ s
  refine wpAny_bind (wpAny_setField ho hd (by simp) ?_)
  show wpAny _ _ (newExc (.type "StopIteration") [] >>= _) _ _ _
  refine wpAny_bind ?_
  simp only [newExc, newTuple]
  refine wpAny_bind (wpAny_newObj_type ?_ (by size_fits))
  refine wpAny_bind (m := firstArgMember _ _) (wpAny_of_eq (a := Value.none) (by first | rfl | (simp only [firstArgMember]; rfl)) ?_)
  refine wpAny_newObj_type ?_ (by size_fits)
  simp only [raiseNew]
  refine wpAny_bind (wpAny_handled ?_)
  rw [show A.in1.handled = none from hh]
  refine wpAny_bind (wpAny_pure (wpAny_throw ?_))
  refine wpAny_bind (wpAny_isInstance (T := "StopIteration") (b := true) ⟨_, Heap.get?_push_size _ rfl, rfl⟩ isSubtype_stop ?_)
  exact wpAny_pure (hQ _ (((Heap.SameBut.update ..).extBut.push _).push _))
end

/-! ### a locked dict -/
theorem kv_get {κ : Type} {kvs : List (κ × V)} {vs : List (κ × Value)} (h : KV kvs vs) : ∀ {i : Nat} {k : κ} {v : V}, kvs[i]? = some (k, v) → ∃ u, vs[i]? = some (k, u) ∧ RelV v u := by
  unfold KV at h
  induction h with
  | nil => intro i k v e; simp at e
  | @cons a b l₁ l₂ r t ih =>
    intro i k v e
    cases i with
    | zero =>
      simp only [List.getElem?_cons_zero, Option.some.injEq] at e
      subst e
      refine ⟨b.2, ?_, r.2⟩
      simp only [List.getElem?_cons_zero]
      exact congrArg some (Prod.ext r.1.symm rfl)
    | succ j =>
      simp only [List.getElem?_cons_succ] at e ⊢
      exact ih e
theorem relV_key {k : Key} {u : Value} (h : keyIs k u = true) : RelV (kV k) u := by
  rcases keyIs_shape h with ⟨i, t, rfl, rfl⟩ | ⟨x, t, rfl, rfl⟩
  · exact ⟨t, rfl⟩
  · exact ⟨t, rfl⟩
section
variable {X : Cx} {pins : List (Addr × Obj)} {σ : St} {H : Hp} {s : Shared} {d : Addr} {o : Obj}
end

/-- the keys of the locked dict at d, in their order -/
def Itk (d : Addr) (o : Obj) (kvs : List (Key × V)) : It :=
  ⟨fun i H => H d = some (.frz o (.dK kvs)) ∧ i < kvs.length, fun i H x H' => H' = H ∧ ∃ k v, kvs[i]? = some (k, v) ∧ x = kV k, fun i H => H d = some (.frz o (.dK kvs)) ∧ kvs.length ≤ i⟩
/-- .. of tuple keys: the key's own tuple -/
def Itkt (d : Addr) (o : Obj) (kvs : List (List Key × V)) : It :=
  ⟨fun i H => H d = some (.frz o (.dT kvs)) ∧ i < kvs.length, fun i H x H' => H' = H ∧ ∃ (k : List Key) (v : V) (q : Addr), kvs[i]? = some (k, v) ∧ x = .ref q ∧ H q = some (.tup (k.map kV)), fun i H => H d = some (.frz o (.dT kvs)) ∧ kvs.length ≤ i⟩
/-- the values -/
def Itd (d : Addr) (o : Obj) (kvs : List (Key × V)) : It :=
  ⟨fun i H => H d = some (.frz o (.dK kvs)) ∧ i < kvs.length, fun i H x H' => H' = H ∧ ∃ k, kvs[i]? = some (k, x), fun i H => H d = some (.frz o (.dK kvs)) ∧ kvs.length ≤ i⟩
/-- the pairs, each a new tuple -/
def Iti (d : Addr) (o : Obj) (kvs : List (Key × V)) : It :=
  ⟨fun i H => H d = some (.frz o (.dK kvs)) ∧ i < kvs.length, fun i H x H' => ∃ T k v, kvs[i]? = some (k, v) ∧ x = .ref T ∧ H T = none ∧ H' = upd H T (.tup [kV k, v]), fun i H => H d = some (.frz o (.dK kvs)) ∧ kvs.length ≤ i⟩
section
variable {P : Program} {w : World} {K : PySem.W.Frag} {tg : Expr} {d : Addr} {o : Obj} {es : Array DictEntry} {ep : Nat}
end

/-! ### for k in d, d.keys(), d.values(), d.items() -/
/-- the dict is locked (tLock, or by the caller) -/
def iKeys (td : TE) : TI := fun σ H R => td σ H fun x H1 => ∃ d o, x = .ref d ∧ ((∃ kvs, H1 d = some (.frz o (.dK kvs)) ∧ R (Itk d o kvs) H1) ∨ ∃ kvs, H1 d = some (.frz o (.dT kvs)) ∧ R (Itkt d o kvs) H1)
def iVals (td : TE) : TI := fun σ H R => td σ H fun x H1 => ∃ d o kvs, x = .ref d ∧ H1 d = some (.frz o (.dK kvs)) ∧ R (Itd d o kvs) H1
def iItems (td : TE) : TI := fun σ H R => td σ H fun x H1 => ∃ d o kvs, x = .ref d ∧ H1 d = some (.frz o (.dK kvs)) ∧ R (Iti d o kvs) H1
def iKeysM (td : TE) : TI := fun σ H R => td σ H fun x H1 => ∃ d o kvs, x = .ref d ∧ H1 d = some (.frz o (.dK kvs)) ∧ R (Itk d o kvs) H1
section
variable {X : Cx} {tg e : Expr} {td : TE} {apos cpos : Pos}
end

/-! ### enumerate(list) -/
/-- the list at a as it stands at each turn, each item in a new pair -/
def Ite (K : PySem.W.Frag) (a : Addr) : It :=
  ⟨fun i H => ∃ (xs : List V) (x : V), SqL K H a xs ∧ xs[i]? = some x, fun i H v H' => ∃ T x, v = .ref T ∧ H T = none ∧ H' = upd H T (.tup [.int (i : Nat), x]) ∧ ∀ xs, SqL K H a xs → xs[i]? = some x, fun i H => ∃ xs : List V, SqL K H a xs ∧ xs.length ≤ i⟩
def iEnum (K : PySem.W.Frag) (ta : TA) : TI := fun σ H R => ta σ H fun vs H1 => ∃ a xs, vs = [.ref a] ∧ SqL K H1 a xs ∧ R (Ite K a) H1
/-! ### zip(list, list) -/
theorem boot_zip5 : bootBuiltins "zip" = some (.type "zip") := by decide +kernel
/-- the lists at a and b as they stand at each turn, the items in new pairs -/
def Itz (K : PySem.W.Frag) (a b : Addr) : It :=
  ⟨fun i H => ∃ (xs ys : List V) (x y : V), SqL K H a xs ∧ SqL K H b ys ∧ xs[i]? = some x ∧ ys[i]? = some y,
    fun i H v H' => ∃ T x y, v = .ref T ∧ H T = none ∧ H' = upd H T (.tup [x, y]) ∧ (∀ xs, SqL K H a xs → xs[i]? = some x) ∧ ∀ ys, SqL K H b ys → ys[i]? = some y,
    fun i H => ∃ xs ys : List V, SqL K H a xs ∧ SqL K H b ys ∧ (xs.length ≤ i ∨ ys.length ≤ i)⟩
def iZip (K : PySem.W.Frag) (ta : TA) : TI := fun σ H R => ta σ H fun vs H1 => ∃ a b xs ys, vs = [.ref a, .ref b] ∧ SqL K H1 a xs ∧ SqL K H1 b ys ∧ R (Itz K a b) H1
end L2

section 
namespace Bits
open PySem PyProof.Rows

theorem bitOr_pp {x y : Int} (hx : 0 ≤ x) (hy : 0 ≤ y) : Builtin.bitOr x y = ((x.toNat ||| y.toNat : Nat) : Int) := by
  have e := nat_or_add_and x.toNat y.toNat
  rw [bitOr_and, bitAnd_pp hx hy]
  omega
end Bits
end 

section 
namespace TL
open PySem PySem.Builtin PySem.Builtin.Str PySem.StrLaws

abbrev tl (x : Str) : List Nat := x.cps.toList
theorem len_tl (x : Str) : x.length = (tl x).length := by simp [tl, Str.length]
/-! ### the list functions -/
/-- S stands at the head of l -/
def pre (S l : List Nat) : Bool := l.take S.length == S
/-- l cut at each S from the left; k signs are still to be passed over -/
def spl (S : List Nat) : Nat → List Nat → List Nat → List (List Nat)
  | _, acc, [] => [acc]
  | 0, acc, c :: r => if pre S (c :: r) = true then acc :: spl S (S.length - 1) [] r else spl S 0 (acc ++ [c]) r
  | k + 1, acc, _ :: r => spl S k acc r
/-- what stands before the first S, and behind it -/
def par (S : List Nat) : List Nat → List Nat → Option (List Nat × List Nat)
  | _, [] => none
  | acc, c :: r => if pre S (c :: r) = true then some (acc, (c :: r).drop S.length) else par S (acc ++ [c]) r

/-! ### the model's split and partition are these -/
/-! ### computing spl and par -/
/-- joined lists -/
def joinL (S : List Nat) : List (List Nat) → List Nat
  | [] => []
  | [p] => p
  | p :: q :: r => p ++ (S ++ joinL S (q :: r))
/-! ### digits -/
/-- the signs of a number -/
def numL (n : Nat) : List Nat := (Nat.toDigits 10 n).map Char.toNat
theorem tl_num (n : Nat) : tl (Str.ofString (toString ((n : Nat) : Int))) = numL n := PySem.W.KIN.signs_num n
theorem numL_len {n k : Nat} (hk : 0 < k) (h : n < 10 ^ k) : (numL n).length ≤ k := by
  have z := PyProof.Rows.toString_length_le (v := (n : Int)) (by omega) hk (by
    have e : ((10 : Int) ^ k) = ((10 ^ k : Nat) : Int) := by
      first
        | exact (Int.natCast_pow 10 k).symm
        | simp
    rw [e]
    first | exact Int.ofNat_lt.mpr h | omega)
  rw [len_tl, tl_num] at z
  exact z
/-! ### words: x.split() -/
def wstep (st : List (List Nat) × List Nat) (c : Nat) : List (List Nat) × List Nat :=
  if Unicode.isSpace c = true then (if st.2 = [] then st else (st.1 ++ [st.2], [])) else (st.1, st.2 ++ [c])
def wfin (st : List (List Nat) × List Nat) : List (List Nat) := if st.2 = [] then st.1 else st.1 ++ [st.2]
end TL
end 

namespace L2
open PySem PySem.Spec PyProof.Rows

/-- a new list of texts, tracked -/
def rNewStrs (ys : List Str) : Hp → VK → Prop := fun H Q => ∀ p, H p = none → Q (.ref p) (upd H p (.lst (ys.map V.str)))

section
variable {X : Cx} {pins : List (Addr × Obj)} {σ : St} {H : Hp} {s : Shared} {Q : VK}
end

section
variable {X : Cx}

/-! ### of a text alone -/
/-! ### of a text and a text -/
end

section
variable {X : Cx} {o e : Expr} {to te : TE}
def tM0 (r : V → List V → Hp → VK → Prop) (to : TE) : TE := fun σ H Q => to σ H fun x H1 => (∃ a, x = .str a) ∧ r x [] H1 Q
def tM1 (r : V → List V → Hp → VK → Prop) (to te : TE) : TE := fun σ H Q => to σ H fun x H1 => (∃ a, x = .str a) ∧ te σ H1 fun y H2 => r x [y] H2 Q
end
end L2

namespace L2
open PySem PySem.Spec PyProof.Rows

section
variable {X : Cx}
end

/-! ### slices of a text -/
/-- a part, clipped, as the text's slice reckons it -/
def clipS (n d : Nat) : Option Int → Int
  | none => (d : Int)
  | some i => max 0 (min (if i < 0 then i + (n : Int) else i) (n : Int))
/-- z[lo:hi] -/
def cutS (z : Str) (lo hi : Option Int) : Str :=
  ⟨((z.cps.toList.drop (HT.sIx z.length 0 lo)).take (HT.sIx z.length z.length hi - HT.sIx z.length 0 lo)).toArray⟩
def rSlS : V → Option Int → Option Int → Hp → VK → Prop := fun x lo hi H Q => ∃ z, x = .str z ∧ z.length ≤ sizeLine ∧ Q (.str (cutS z lo hi)) H
end L2

namespace Att
open PySem PySem.W PySem.Calls PyProof.Rows

/-! ### the script -/
/-! ### the attachment: holds_open's last premise (the goal 'hc' behind k_head) from a wpAny of the law's body -/
/-! ### rules over ANY heap (no ledger) from facts about the written part K: the library's own take a ledger (News) for what they write -/
section
variable {prog : Program} {w : World} {A : Around} {E : Value → Shared → Prop} {s : Shared} {K : Frag}

/-! the whole heap as the ledger: makes every rule that writes through a ledger a rule over any heap -/
def noObjs (h : Heap) : Heap := { h with objs := #[] }
def ledger (h : Heap) (L d : Addr) : List (Addr × Obj) := (List.range h.objs.size).filterMap fun a => if a = L ∨ a = d then none else (h.get? a).map fun o => (a, o)
end
end Att

namespace L2
open PySem PySem.Spec PyProof.Rows

/-- nothing is tracked but the script, known to the object (or it is an object of the module) -/
def Only (H : Hp) : Prop := ∀ b, H b = none ∨ ∃ o xs, H b = some (.frz o (.lst xs))

end L2

namespace L2
open PySem PySem.Spec PyProof.Rows

abbrev KOf {K : PySem.W.Frag} {h : Heap} (_ : K.In h) : PySem.W.Frag := K

end L2

/- THE LAST THEOREM (shape; LID, My.* are yours):
   My.Adr: a structure of the addresses that your layer names (classes, functions); My.Txt K t: a structure (Prop) of the equations over K;
   My.txt_mk : {K} {implicit addresses ..} (e1 : nsIn K mainGlobals "law" = some (some (.ref f))) (e2 : K.lookup f = some ⟨oc, od, .func (fnOf "law" "law" params body scope dV kV doc pm an cdv ct), sl⟩) (e3 : codeIn K cdv "law" = true) .. : ∃ t, My.Txt K t

set_option maxRecDepth 100000 in
set_option maxHeartbeats 0 in
theorem PySem.Challenge.cw_LID_holds : PySem.Challenge.rw_LID.Holds := by
  w_on; o_law; k_head; (case hw => w_witness2)
  k_fill
  refine L2.walk_of (l := PySem.Challenge.rw_LID) (n := 63) (k := 40) (x := "script") (CX := fun w => ..) (sp := fun _ => My.sp_law) rfl (by decide) rfl ⟨rfl, by decide, by decide⟩ (fun w h Y => PySem.W.kIn_of Y) ?F ?S ?C
  case F =>
    intro w mg fa h KX G hmg
    have T : ∃ t, My.Txt (L2.KOf KX) t := by
      dsimp only [L2.KOf]                          -- K must stand as «<heap const> w.params» for k_is
      refine' My.txt_mk ?e1 ?e2 ?e3 ..
      (case e1 => PySem.W.k_is)                    -- in the order: a name -> its address -> its object -> its parts
      (case e2 => PySem.W.k_is)
      ..
    obtain ⟨t, T⟩ := T
    have e0 := hmg.symm.trans (PySem.W.mg_of KX G T.law)
    cases e0                                       -- fa is the law's own address
    exact ⟨_, fun s u => .of_eq rfl, fun base kb nb => My.law_fn T kb nb⟩     -- if «.of_eq rfl» comes too early: refine' ⟨_, ?b, fun base kb nb => My.law_fn T kb nb⟩; exact fun s u => .of_eq rfl
  case S => exact fun w H a ns hl hO hS => ..
  case C => exact ..
(the tactic k_is has no namespace: write k_is) -/

/-! SHORT WORDS over the layer: a def of the text, its body, what a loop and a test want. -/
namespace L2
open PySem PySem.Spec PyProof.Rows

/-! ### the text by places -/
/-- the j-th statement of a class's body -/
def inClass (s : Stmt) (j : Nat) : Stmt := match s with
  | .ClassDef _ _ _ body _ _ _ _ _ _ _ => body.getD j (.Pass ⟨0, 0, 0, 0⟩)
  | _ => .Pass ⟨0, 0, 0, 0⟩
def defArgs (s : Stmt) : Arguments := match s with
  | .FunctionDef _ a _ _ _ _ _ _ _ _ => a
  | _ => { posonlyargs := [], args := [], vararg := none, kwonlyargs := [], kw_defaults := [], kwarg := none, defaults := [] }
def defBody (s : Stmt) : List Stmt := match s with
  | .FunctionDef _ _ b _ _ _ _ _ _ _ => b
  | _ => []
def defScope (s : Stmt) : Scope := match s with
  | .FunctionDef _ _ _ _ _ _ sc _ _ _ => sc
  | _ => { kind := .function, names := [], isGenerator := false, isCoroutine := false }

/-! ### no exception leaves a def -/
abbrev CX0 : CXT := fun _ _ _ _ _ _ => False
abbrev E0 : XK := fun _ _ _ => False
theorem pass0 {X : Cx} : Passes CX0 X E0 := fun _ _ _ _ _ _ _ h => h.elim

/-! ### a def (or method) of the text as it stands behind the top -/
structure Fun (K : PySem.W.Frag) (x qual : Str) (st : Stmt) (f : Addr) (fd : FuncData) : Prop where
  ex : ∃ (oc : Value) (od : Option Addr) (kV doc pm : Value) (an : Option Addr) (cdv ct : Value) (osl : Array (Option Value)),
    fd = PySem.W.fnOf x qual (defArgs st) (defBody st) (defScope st) .none kV doc pm an cdv ct ∧ K.lookup f = some ⟨oc, od, .func fd, osl⟩ ∧ PySem.W.codeIn K cdv qual = true
  kp : PySem.W.keepIn K (.ref f) = true
section
variable {P : Program} {w : World} {K : PySem.W.Frag} {mg : Str → Option Value} {base : Heap}
/-- THE RULE for a def: its body as a term of rules, and the reading of that term -/
theorem Fun.ok {x qual : Str} {st : Stmt} {f : Addr} {fd : FuncData} {N ps : List Str} {k : Nat} {sp : Sp} (F : Fun K x qual st f fd) (S : FnScope N ps (defScope st)) (len : ∀ vs H Q E, sp vs H Q E → vs.length = ps.length)
    (hbody : ∀ (cdv : Value) (A : Around) (outer : List Env) (s : Shared) (H : Hp) (vs : List V) (Q : VK) (E : XK), Room k (A.deeper (envOfC qual (defScope st) s.heap.objs.size f cdv)) → sp vs H Q E →
      ∃ t, PSs (cxOf CX0 P w K mg base N qual (defScope st) f cdv A outer s H E).nox (defBody st) t ∧ t { nx := fun _ H' => Q .non H', rt := Q } (start N vs) H) : FnOk P w K mg base CX0 (k + 1) f fd ps sp := by
  obtain ⟨oc, od, kV, doc, pm, an, cdv, ct, osl, rfl, lk, hcd⟩ := F.ex
  refine fn_of lk hcd S len fun A outer s H vs Q E hr hsp => ?_
  obtain ⟨t, h, q⟩ := hbody cdv A outer s H vs Q E hr hsp
  exact ⟨t, h.nox, q⟩
/-- how its arguments bind (no defaults): h is «fun _ _ _ _ _ _ us hl => match us, hl with | [_, _], _ => rfl», one _ a parameter -/
theorem Fun.binds {x qual : Str} {st : Stmt} {f : Addr} {fd : FuncData} {ps : List Str} (F : Fun K x qual st f fd)
    (h : ∀ (kV doc pm : Value) (an : Option Addr) (cdv ct : Value) (us : List Value), us.length = ps.length → bindArgs (PySem.W.fnOf x qual (defArgs st) (defBody st) (defScope st) .none kV doc pm an cdv ct) ⟨us, []⟩ = pure (ps.zip us)) : Binds K fd ps [] := by
  obtain ⟨oc, od, kV, doc, pm, an, cdv, ct, osl, rfl, lk, hcd⟩ := F.ex
  exact .all (h kV doc pm an cdv ct)
theorem fun_mk {x qual : Str} {st : Stmt} {f : Addr} {oc : Value} {od an : Option Addr} {osl : Array (Option Value)} {kV doc pm cdv ct : Value} (l : K.lookup f = some ⟨oc, od, .func (PySem.W.fnOf x qual (defArgs st) (defBody st) (defScope st) .none kV doc pm an cdv ct), osl⟩)
    (c : PySem.W.codeIn K cdv qual = true) (k : PySem.W.keepIn K (.ref f) = true) : Fun K x qual st f (PySem.W.fnOf x qual (defArgs st) (defBody st) (defScope st) .none kV doc pm an cdv ct) := ⟨⟨oc, od, kV, doc, pm, an, cdv, ct, osl, rfl, l, c⟩, k⟩
end
theorem hu_of {A : Around} {k : Nat} (hr : Room k A) : A.units + 1 < cLine := Nat.lt_of_le_of_lt (Nat.add_le_add_left (by decide : 1 ≤ 64) _) hr.units
theorem small1000 {n : Nat} (h : n ≤ 1000) : n < sizeLine := Nat.lt_of_le_of_lt h (by decide)

/-! ### expressions in short: the name that stands in the i-th slot -/
section
variable {X : Cx}
theorem pv (i : Nat) {x : Str} {pos : Pos} (hN : X.N[i]? = some x := by rfl) (hv : Vis X.env.scope x := by first | exact Or.inl rfl | exact Or.inr (Or.inl rfl) | exact Or.inr (Or.inr rfl)) (hd : (x == ("__debug__" : Str)) = false := by decide)
    (hcd : (x == ("__classdict__" : Str)) = false := by decide) : PE X (.Name x pos) (tVar i) := pe_var hN hv hd hcd
end

/-! ### tests -/
theorem iteF {A B : Prop} (h : B) : if false = true then A else B := by
  rw [if_neg Bool.false_ne_true]
  exact h
theorem iteT {A B : Prop} (h : A) : if true = true then A else B := by
  rw [if_pos rfl]
  exact h
/-! ### heaps -/
/-- all that was tracked is as it was -/
def Same (H H' : Hp) : Prop := ∀ b o, H b = some o → H' b = some o
theorem Same.trans {H H1 H2 : Hp} (a : Same H H1) (b : Same H1 H2) : Same H H2 := fun c o h => b c o (a c o h)
theorem Same.free {H H' : Hp} (e : Same H H') {l : Addr} (h : H' l = Option.none) : H l = Option.none := by
  cases q : H l with
  | none => rfl
  | some o =>
    rw [e l o q] at h
    cases h
theorem Same.seq {K : PySem.W.Frag} {H H' : Hp} {a : Addr} {xs : List V} (e : Same H H') (h : SqL K H a xs) : SqL K H' a xs := by
  rcases h with (h | ⟨o, h⟩) | h
  · exact .inl (.inl (e _ _ h))
  · exact .inl (.inr ⟨o, e _ _ h⟩)
  · exact .inr h

/-! ### a dict's pairs: keys that differ -/
section
variable {κ : Type} [DecidableEq κ]
end
/-! ### lists -/
end L2

end

section
set_option Elab.async false
set_option linter.all false
set_option maxRecDepth 100000
section
namespace L2
open PySem PySem.Spec PyProof.Rows
open PySem.W (WData Codec OpenSpec Well WellAll ReadsW ReadsAllW)
/-! ### an answer as data -/
mutual
/-- x stands for the datum d, lists and tuples all the way -/
inductive Dw (K : PySem.W.Frag) (H : Hp) : V → WData → Prop
  | non : Dw K H .non .none
  | bl (b : Bool) : Dw K H (.bl b) (.bool b)
  | int (i : Int) : Dw K H (.int i) (.int i)
  | str (x : Str) : Dw K H (.str x) (.str x)
  | byt (b : Array UInt8) : Dw K H (.byt b) (.bytes b.toList)
  | lst {a : Addr} {xs : List V} {ds : List WData} : SqL K H a xs → DwAll K H xs ds → Dw K H (.ref a) (.list ds)
  | tup {a : Addr} {xs : List V} {ds : List WData} : SqT K H a xs → DwAll K H xs ds → Dw K H (.ref a) (.tuple ds)
inductive DwAll (K : PySem.W.Frag) (H : Hp) : List V → List WData → Prop
  | nil : DwAll K H [] []
  | cons {v : V} {vs : List V} {d : WData} {ds : List WData} : Dw K H v d → DwAll K H vs ds → DwAll K H (v :: vs) (d :: ds)
end
theorem dw_ints {K : PySem.W.Frag} {H : Hp} : ∀ ns : List Int, DwAll K H (ns.map V.int) (ns.map WData.int)
  | [] => .nil
  | n :: r => .cons (.int n) (dw_ints r)
theorem ints_dw {K : PySem.W.Frag} {H : Hp} : ∀ (ns : List Int) (xs : List V), DwAll K H xs (ns.map WData.int) → xs = ns.map V.int
  | [], xs, h => by
    cases h
    rfl
  | n :: r, xs, h => by
    cases h with
    | cons h1 h2 =>
      cases h1
      rw [ints_dw r _ h2] <;> rfl
section
variable {P : Program} {w : World} {K : PySem.W.Frag} {H : Hp} {h : Heap} {R : PySem.W.WRecords} {cl : Str → Option Addr}
theorem sqL_at {a : Addr} {xs : List V} (hok : HOk P w H h) (KX : K.In h) (q : SqL K H a xs) : ∃ (its : List Value) (o : Obj) (n : Nat), Vals xs its ∧ h.get? a = some o ∧ o.cls = .type "list" ∧ o.data = .seq its.toArray n := by
  rcases q with q | ⟨o, its, n, e, hc, _, hd, _, hv⟩
  · obtain ⟨_, its, n, hv, e⟩ := (show ObjOk P w H h a (.lst xs) from q.ok hok)
    exact ⟨its, _, n, hv, e, rfl, rfl⟩
  · exact ⟨its.toList, o, n, hv, KX _ _ e, hc, by simp [hd]⟩
theorem sqT_at {a : Addr} {xs : List V} (hok : HOk P w H h) (KX : K.In h) (q : SqT K H a xs) : ∃ (its : List Value) (o : Obj) (n : Nat), Vals xs its ∧ h.get? a = some o ∧ o.cls = .type "tuple" ∧ o.data = .seq its.toArray n := by
  rcases q with q | ⟨o, its, n, e, hc, hd, _, hv⟩
  · obtain ⟨_, its, hv, o, e, hc, n, hd⟩ := (show ObjOk P w H h a (.tup xs) from q.ok hok)
    exact ⟨its, o, n, hv, e, hc, hd⟩
  · exact ⟨its.toList, o, n, hv, KX _ _ e, hc, by simp [hd]⟩
mutual
theorem Dw.reads (hok : HOk P w H h) (KX : K.In h) : ∀ (d : WData) (v : V) (u : Value), Dw K H v d → RelV v u → ∃ as, ReadsW R cl h u d as
  | .none, _, _, x, r => by
    cases x
    cases r
    exact ⟨_, ReadsW.none⟩
  | .bool b, _, _, x, r => by
    cases x
    cases r
    exact ⟨_, ReadsW.bool b⟩
  | .int i, _, _, x, r => by
    cases x
    obtain ⟨t, rfl⟩ := r
    exact ⟨_, ReadsW.int i t⟩
  | .str s, _, _, x, r => by
    cases x
    obtain ⟨t, rfl⟩ := r
    exact ⟨_, ReadsW.str s t⟩
  | .bytes b, _, _, x, r => by
    cases x
    obtain ⟨t, rfl⟩ := r
    exact ⟨_, ReadsW.bytes _ t⟩
  | .list ds, _, _, x, r => by
    cases x with
    | lst hs ha =>
      cases r
      obtain ⟨its, o, n, rv, ho, hc, hd⟩ := sqL_at hok KX hs
      obtain ⟨as, hr⟩ := Dw.readsAll hok KX ds _ its ha rv
      exact ⟨_, ReadsW.list ho hc hd hr⟩
  | .tuple ds, _, _, x, r => by
    cases x with
    | tup hs ha =>
      cases r
      obtain ⟨its, o, n, rv, ho, hc, hd⟩ := sqT_at hok KX hs
      obtain ⟨as, hr⟩ := Dw.readsAll hok KX ds _ its ha rv
      exact ⟨_, ReadsW.tuple ho hc hd hr⟩
  | .float _, _, _, x, _ => by cases x
  | .dict _, _, _, x, _ => by cases x
  | .bytearray _, _, _, x, _ => by cases x
  | .set _, _, _, x, _ => by cases x
  | .frozenset _, _, _, x, _ => by cases x
  | .obj _ _, _, _, x, _ => by cases x
theorem Dw.readsAll (hok : HOk P w H h) (KX : K.In h) : ∀ (ds : List WData) (vs : List V) (us : List Value), DwAll K H vs ds → Vals vs us → ∃ as, ReadsAllW R cl h us ds as
  | [], _, _, x, r => by
    cases x
    cases r
    exact ⟨_, ReadsAllW.nil⟩
  | d :: ds, _, _, x, r => by
    cases x with
    | cons h1 h2 =>
      cases r with
      | cons r1 r2 =>
        obtain ⟨as, q1⟩ := Dw.reads hok KX d _ _ h1 r1
        obtain ⟨bs, q2⟩ := Dw.readsAll hok KX ds _ _ h2 r2
        exact ⟨_, ReadsAllW.cons q1 q2⟩
end
end
/-! ### the arguments -/
mutual
/-- data that a codec tells -/
def plW : WData → Bool
  | .none => true
  | .bool _ => true
  | .int _ => true
  | .str _ => true
  | .bytes _ => true
  | .list xs => plWs xs
  | .tuple xs => plWs xs
  | _ => false
def plWs : List WData → Bool
  | [] => true
  | x :: r => plW x && plWs r
end
theorem plWs_map {α : Type} {f : α → WData} (h : ∀ a, plW (f a) = true) : ∀ l : List α, plWs (l.map f) = true
  | [] => rfl
  | x :: r => by
    show (plW (f x) && plWs (r.map f)) = true
    rw [h x, plWs_map h r] <;> rfl
theorem pl_enc : ∀ (c : Codec) (a : c.denote), plW (c.enc a) = true
  | .unit, _ => rfl
  | .bool, _ => rfl
  | .int _ _, _ => rfl
  | .nat _ _, _ => rfl
  | .u8, _ => rfl
  | .bytes _ _, _ => rfl
  | .text _ _ _ _, _ => rfl
  | .list _ _ c, a => plWs_map (fun x => pl_enc c x) a
  | .pair c d, a => by
    show (plW (c.enc a.1) && (plW (d.enc a.2) && true)) = true
    rw [pl_enc c a.1, pl_enc d a.2] <;> rfl
  | .triple c d e, a => by
    show (plW (c.enc a.1) && (plW (d.enc a.2.1) && (plW (e.enc a.2.2) && true))) = true
    rw [pl_enc c a.1, pl_enc d a.2.1, pl_enc e a.2.2] <;> rfl
  | .option c, none => rfl
  | .option c, some x => pl_enc c x
theorem pl_encAll : ∀ (cs : List Codec) (a : Codec.denoteAll cs), plWs (Codec.encAll cs a) = true
  | [], _ => rfl
  | c :: cs, a => by
    show (plW (c.enc a.1) && plWs (Codec.encAll cs a.2)) = true
    rw [pl_enc c a.1, pl_encAll cs a.2] <;> rfl
theorem weight_mem : ∀ {xs : List WData} {d : WData}, d ∈ xs → d.weight ≤ WData.weightAll xs
  | [], d, h => absurd h (by simp)
  | x :: r, d, h => by
    show d.weight ≤ x.weight + 1 + WData.weightAll r
    rcases List.mem_cons.mp h with e | m
    · rw [e]
      omega
    · have z := weight_mem m
      omega
def toV : Value → V
  | .none => .non
  | .bool b => .bl b
  | .int i _ => .int i
  | .str x _ => .str x
  | .bytes b _ => .byt b
  | .ref a => .ref a
  | _ => .non
/-- a value of the arguments, its objects among A -/
def OkU (A : List Addr) : Value → Prop
  | .none => True
  | .bool _ => True
  | .int _ _ => True
  | .str _ _ => True
  | .bytes _ _ => True
  | .ref a => a ∈ A
  | _ => False
theorem OkU.mono {A B : List Addr} (h : ∀ a ∈ A, a ∈ B) : ∀ {u : Value}, OkU A u → OkU B u := fun {u} x => by
  cases u with
  | ref a => exact h a x
  | none => trivial
  | bool b => trivial
  | int i t => trivial
  | str s t => trivial
  | bytes b t => trivial
  | _ => exact False.elim x
theorem relV_toV {A : List Addr} {u : Value} (x : OkU A u) : RelV (toV u) u := by
  cases u with
  | ref a => rfl
  | none => rfl
  | bool b => rfl
  | int i t => exact ⟨t, rfl⟩
  | str s t => exact ⟨t, rfl⟩
  | bytes b t => exact ⟨t, rfl⟩
  | _ => exact False.elim x
theorem vals_toV {A : List Addr} : ∀ {vs : List Value}, (∀ u ∈ vs, OkU A u) → Vals (vs.map toV) vs
  | [], _ => .nil
  | u :: r, h => .cons (relV_toV (h u (List.mem_cons_self ..))) (vals_toV fun x hx => h x (List.mem_cons_of_mem _ hx))
/-- an object of the arguments -/
def ArgOb (h : Heap) (A : List Addr) (a : Addr) : Prop := ∃ vs : List Value, vs.length ≤ sizeLine ∧ (∀ u ∈ vs, OkU A u) ∧
  (h.get? a = some { cls := .type "list", data := .seq vs.toArray } ∨ h.get? a = some { cls := .type "tuple", data := .seq vs.toArray })
theorem ArgOb.mono {h : Heap} {A B : List Addr} {a : Addr} (k : ∀ a ∈ A, a ∈ B) (x : ArgOb h A a) : ArgOb h B a := by
  obtain ⟨vs, h1, h2, h3⟩ := x
  exact ⟨vs, h1, fun u hu => (h2 u hu).mono k, h3⟩
theorem wellAll_len {P : Params} {h : Heap} : ∀ {vs : List Value} {ds : List WData}, WellAll P h vs ds → vs.length = ds.length
  | _, _, .nil => rfl
  | _, _, .cons _ b => by
    show _ + 1 = _ + 1
    rw [wellAll_len b]
theorem well_list {P : Params} {h : Heap} {v : Value} {ds : List WData} (x : Well P h v (.list ds)) : ∃ (a : Addr) (vs : List Value), v = .ref a ∧ h.get? a = some { cls := .type "list", data := .seq vs.toArray } ∧ WellAll P h vs ds := by
  cases x with
  | list ho hall => exact ⟨_, _, rfl, ho, hall⟩
theorem well_tuple {P : Params} {h : Heap} {v : Value} {ds : List WData} (x : Well P h v (.tuple ds)) : ∃ (a : Addr) (vs : List Value), v = .ref a ∧ h.get? a = some { cls := .type "tuple", data := .seq vs.toArray } ∧ WellAll P h vs ds := by
  cases x with
  | tuple ho hall => exact ⟨_, _, rfl, ho, hall⟩
theorem well_cons {P : Params} {h : Heap} {us : List Value} {d : WData} {ds : List WData} (x : WellAll P h us (d :: ds)) : ∃ (v : Value) (vs : List Value), us = v :: vs ∧ Well P h v d ∧ WellAll P h vs ds := by
  cases x with
  | cons a b => exact ⟨_, _, rfl, a, b⟩
theorem line_of {n : Nat} (h : n ≤ 1048576) : n ≤ sizeLine := Nat.le_trans h (by decide)
section
variable {P : Params} {h : Heap}
mutual
theorem area_one : ∀ (d : WData) (v : Value), Well P h v d → plW d = true → d.weight ≤ 1048576 → ∃ A : List Addr, OkU A v ∧ ∀ a ∈ A, ArgOb h A a
  | .none, _, x, _, _ => by
    cases x
    exact ⟨[], trivial, fun a m => absurd m (by simp)⟩
  | .bool b, _, x, _, _ => by
    cases x
    exact ⟨[], trivial, fun a m => absurd m (by simp)⟩
  | .int i, _, x, _, _ => by
    cases x
    exact ⟨[], trivial, fun a m => absurd m (by simp)⟩
  | .str s, _, x, _, _ => by
    cases x
    exact ⟨[], trivial, fun a m => absurd m (by simp)⟩
  | .bytes b, _, x, _, _ => by
    cases x
    exact ⟨[], trivial, fun a m => absurd m (by simp)⟩
  | .list ds, _, x, p, z => by
    obtain ⟨a, vs, rfl, ho, hall⟩ := well_list x
    have z2 : WData.weightAll ds ≤ 1048576 := z
    obtain ⟨A, h1, h2⟩ := area_all ds _ hall p fun d hd => Nat.le_trans (weight_mem hd) z2
    have k : ∀ b ∈ A, b ∈ a :: A := fun b hb => List.mem_cons_of_mem _ hb
    refine ⟨a :: A, List.mem_cons_self .., fun b hb => ?_⟩
    rcases List.mem_cons.mp hb with e | m
    · rw [e]
      exact ⟨vs, line_of (by rw [wellAll_len hall]; exact Nat.le_trans (PySem.W.length_le_weightAllW ds) z2), fun u hu => (h1 u hu).mono k, .inl ho⟩
    · exact (h2 b m).mono k
  | .tuple ds, _, x, p, z => by
    obtain ⟨a, vs, rfl, ho, hall⟩ := well_tuple x
    have z2 : WData.weightAll ds ≤ 1048576 := z
    obtain ⟨A, h1, h2⟩ := area_all ds _ hall p fun d hd => Nat.le_trans (weight_mem hd) z2
    have k : ∀ b ∈ A, b ∈ a :: A := fun b hb => List.mem_cons_of_mem _ hb
    refine ⟨a :: A, List.mem_cons_self .., fun b hb => ?_⟩
    rcases List.mem_cons.mp hb with e | m
    · rw [e]
      exact ⟨vs, line_of (by rw [wellAll_len hall]; exact Nat.le_trans (PySem.W.length_le_weightAllW ds) z2), fun u hu => (h1 u hu).mono k, .inr ho⟩
    · exact (h2 b m).mono k
  | .float _, _, _, p, _ => Bool.noConfusion (show false = true from p)
  | .dict _, _, _, p, _ => Bool.noConfusion (show false = true from p)
  | .bytearray _, _, _, p, _ => Bool.noConfusion (show false = true from p)
  | .set _, _, _, p, _ => Bool.noConfusion (show false = true from p)
  | .frozenset _, _, _, p, _ => Bool.noConfusion (show false = true from p)
  | .obj _ _, _, _, p, _ => Bool.noConfusion (show false = true from p)
theorem area_all : ∀ (ds : List WData) (vs : List Value), WellAll P h vs ds → plWs ds = true → (∀ d ∈ ds, d.weight ≤ 1048576) → ∃ A : List Addr, (∀ u ∈ vs, OkU A u) ∧ ∀ a ∈ A, ArgOb h A a
  | [], _, x, _, _ => by
    cases x
    exact ⟨[], fun u m => absurd m (by simp), fun a m => absurd m (by simp)⟩
  | d :: ds, _, x, p, z => by
    obtain ⟨v, vs, rfl, x1, x2⟩ := well_cons x
    have q : plW d = true ∧ plWs ds = true := Bool.and_eq_true_iff.mp p
    obtain ⟨A, a1, a2⟩ := area_one d v x1 q.1 (z d (List.mem_cons_self ..))
    obtain ⟨B, b1, b2⟩ := area_all ds vs x2 q.2 fun e he => z e (List.mem_cons_of_mem _ he)
    have kA : ∀ b ∈ A, b ∈ A ++ B := fun b hb => List.mem_append.mpr (.inl hb)
    have kB : ∀ b ∈ B, b ∈ A ++ B := fun b hb => List.mem_append.mpr (.inr hb)
    refine ⟨A ++ B, fun u hu => ?_, fun b hb => ?_⟩
    · rcases List.mem_cons.mp hu with e | m
      · rw [e]
        exact a1.mono kA
      · exact (b1 u m).mono kB
    · rcases List.mem_append.mp hb with m | m
      · exact (a2 b m).mono kA
      · exact (b2 b m).mono kB
end
end
/-- what is tracked of an argument's object -/
def hoOf (o : Obj) : Option HO := match o.data with
  | .seq vs _ => if (o.cls == Value.type "list") = true then some (.frz o (.lst (vs.toList.map toV))) else some (.frz o (.tup (vs.toList.map toV)))
  | _ => none
def argH (K : PySem.W.Frag) (h : Heap) (A : List Addr) : Hp := fun b => if b ∈ A then (if (K.lookup b).isNone = true then (h.get? b).bind hoOf else none) else none
/-- nothing is tracked but what is known to the object -/
def OnlyF (H : Hp) : Prop := ∀ b, H b = none ∨ ∃ o u, H b = some (.frz o u)
theorem hoOf_lst (vs : List Value) : hoOf { cls := .type "list", data := .seq vs.toArray } = some (.frz { cls := .type "list", data := .seq vs.toArray } (.lst (vs.map toV))) := by
  show (if (Value.type "list" == Value.type "list") = true then some (HO.frz { cls := .type "list", data := .seq vs.toArray } (.lst (vs.toArray.toList.map toV))) else some (HO.frz { cls := .type "list", data := .seq vs.toArray } (.tup (vs.toArray.toList.map toV)))) = _
  rw [if_pos (beq_self_eq_true _)]
theorem hoOf_tup (vs : List Value) : hoOf { cls := .type "tuple", data := .seq vs.toArray } = some (.frz { cls := .type "tuple", data := .seq vs.toArray } (.tup (vs.map toV))) := by
  show (if (Value.type "tuple" == Value.type "list") = true then some (HO.frz { cls := .type "tuple", data := .seq vs.toArray } (.lst (vs.toArray.toList.map toV))) else some (HO.frz { cls := .type "tuple", data := .seq vs.toArray } (.tup (vs.toArray.toList.map toV)))) = _
  rw [if_neg (by decide)]
section
variable {P : Program} {w : World} {K : PySem.W.Frag} {h : Heap} {A : List Addr}
theorem argH_at {b : Addr} {o : Obj} (hb : b ∈ A) (hk : K.lookup b = none) (e : h.get? b = some o) : argH K h A b = hoOf o := by
  unfold argH
  rw [if_pos hb, hk, if_pos (show (none : Option Obj).isNone = true from rfl), e] <;> rfl
theorem of_argH {b : Addr} {u : HO} (q : argH K h A b = some u) : b ∈ A ∧ K.lookup b = none := by
  unfold argH at q
  by_cases hb : b ∈ A
  · rw [if_pos hb] at q
    cases hk : K.lookup b with
    | none => exact ⟨hb, rfl⟩
    | some o =>
      rw [hk, if_neg (by simp)] at q
      cases q
  · rw [if_neg hb] at q
    cases q
/-- what stands tracked -/
theorem argH_is (ar : ∀ a ∈ A, ArgOb h A a) {b : Addr} {u : HO} (q : argH K h A b = some u) : K.lookup b = none ∧ ∃ vs : List Value, vs.length ≤ sizeLine ∧ (∀ u ∈ vs, OkU A u) ∧
    ((h.get? b = some { cls := .type "list", data := .seq vs.toArray } ∧ u = .frz { cls := .type "list", data := .seq vs.toArray } (.lst (vs.map toV))) ∨
     (h.get? b = some { cls := .type "tuple", data := .seq vs.toArray } ∧ u = .frz { cls := .type "tuple", data := .seq vs.toArray } (.tup (vs.map toV)))) := by
  obtain ⟨hb, hk⟩ := of_argH q
  obtain ⟨vs, h1, h2, h3⟩ := ar b hb
  refine ⟨hk, vs, h1, h2, ?_⟩
  rcases h3 with e | e
  · rw [argH_at hb hk e, hoOf_lst] at q
    exact .inl ⟨e, (Option.some.inj q).symm⟩
  · rw [argH_at hb hk e, hoOf_tup] at q
    exact .inr ⟨e, (Option.some.inj q).symm⟩
theorem argH_only (ar : ∀ a ∈ A, ArgOb h A a) : OnlyF (argH K h A) := fun b => by
  cases q : argH K h A b with
  | none => exact .inl rfl
  | some u =>
    obtain ⟨_, vs, _, _, ⟨_, e⟩ | ⟨_, e⟩⟩ := argH_is ar q
    · exact .inr ⟨_, _, by rw [e]⟩
    · exact .inr ⟨_, _, by rw [e]⟩
theorem argH_ok (ar : ∀ a ∈ A, ArgOb h A a) : HOk P w (argH K h A) h := fun b u q => by
  obtain ⟨_, vs, h1, h2, ⟨e, rfl⟩ | ⟨e, rfl⟩⟩ := argH_is ar q
  · exact ⟨e, by rw [List.length_map]; exact h1, vs, _, vals_toV h2, e⟩
  · exact ⟨e, by rw [List.length_map]; exact h1, vs, vals_toV h2, _, e, rfl, _, rfl⟩
theorem seq_inj {c c' : Value} {vs us : List Value} (e : (some { cls := c, data := .seq vs.toArray } : Option Obj) = some { cls := c', data := .seq us.toArray }) : c = c' ∧ vs = us := by
  have e1 := Option.some.inj e
  have e2 : c = c' := congrArg Obj.cls e1
  have e3 : Data.seq vs.toArray = Data.seq us.toArray := congrArg Obj.data e1
  injection e3 with e4
  refine ⟨e2, ?_⟩
  have e5 := congrArg Array.toList e4
  simpa using e5
/-- a list argument -/
theorem argL (KX : K.In h) (ar : ∀ a ∈ A, ArgOb h A a) {a : Addr} {vs : List Value} (ha : a ∈ A) (e : h.get? a = some { cls := .type "list", data := .seq vs.toArray }) : (∀ u ∈ vs, OkU A u) ∧ SqL K (argH K h A) a (vs.map toV) := by
  obtain ⟨us, h1, h2, h3⟩ := ar a ha
  have hu : us = vs := by
    rcases h3 with q | q
    · rw [e] at q
      exact (seq_inj q).2.symm
    · rw [e] at q
      exact absurd (Value.type.inj (seq_inj q).1) (by decide)
  subst hu
  refine ⟨h2, ?_⟩
  cases hk : K.lookup a with
  | none => exact .inl (.inr ⟨_, by rw [argH_at ha hk e, hoOf_lst]⟩)
  | some o =>
    have e2 := KX a o hk
    rw [e] at e2
    obtain rfl := Option.some.inj e2
    exact .inr ⟨_, us.toArray, _, hk, rfl, rfl, rfl, by rw [List.size_toArray]; exact h1, by simpa using vals_toV h2⟩
theorem argT (KX : K.In h) (ar : ∀ a ∈ A, ArgOb h A a) {a : Addr} {vs : List Value} (ha : a ∈ A) (e : h.get? a = some { cls := .type "tuple", data := .seq vs.toArray }) : (∀ u ∈ vs, OkU A u) ∧ SqT K (argH K h A) a (vs.map toV) := by
  obtain ⟨us, h1, h2, h3⟩ := ar a ha
  have hu : us = vs := by
    rcases h3 with q | q
    · rw [e] at q
      exact absurd (Value.type.inj (seq_inj q).1) (by decide)
    · rw [e] at q
      exact (seq_inj q).2.symm
  subst hu
  refine ⟨h2, ?_⟩
  cases hk : K.lookup a with
  | none => exact .inl (.inr ⟨_, by rw [argH_at ha hk e, hoOf_tup]⟩)
  | some o =>
    have e2 := KX a o hk
    rw [e] at e2
    obtain rfl := Option.some.inj e2
    exact .inr ⟨_, us.toArray, _, hk, rfl, rfl, by rw [List.size_toArray]; exact h1, by simpa using vals_toV h2⟩
mutual
theorem dw_one {Pm : Params} (KX : K.In h) (ar : ∀ a ∈ A, ArgOb h A a) : ∀ (d : WData) (v : Value), Well Pm h v d → plW d = true → OkU A v → Dw K (argH K h A) (toV v) d
  | .none, _, x, _, _ => by
    cases x
    exact .non
  | .bool b, _, x, _, _ => by
    cases x
    exact .bl b
  | .int i, _, x, _, _ => by
    cases x
    exact .int i
  | .str s, _, x, _, _ => by
    cases x
    exact .str s
  | .bytes b, _, x, _, _ => by
    cases x
    have z := Dw.byt (K := K) (H := argH K h A) b.toArray
    exact z
  | .list ds, _, x, p, hu => by
    obtain ⟨a, vs, rfl, ho, hall⟩ := well_list x
    obtain ⟨h2, hs⟩ := argL KX ar hu ho
    exact .lst hs (dw_all KX ar ds _ hall p h2)
  | .tuple ds, _, x, p, hu => by
    obtain ⟨a, vs, rfl, ho, hall⟩ := well_tuple x
    obtain ⟨h2, hs⟩ := argT KX ar hu ho
    exact .tup hs (dw_all KX ar ds _ hall p h2)
  | .float _, _, _, p, _ => Bool.noConfusion (show false = true from p)
  | .dict _, _, _, p, _ => Bool.noConfusion (show false = true from p)
  | .bytearray _, _, _, p, _ => Bool.noConfusion (show false = true from p)
  | .set _, _, _, p, _ => Bool.noConfusion (show false = true from p)
  | .frozenset _, _, _, p, _ => Bool.noConfusion (show false = true from p)
  | .obj _ _, _, _, p, _ => Bool.noConfusion (show false = true from p)
theorem dw_all {Pm : Params} (KX : K.In h) (ar : ∀ a ∈ A, ArgOb h A a) : ∀ (ds : List WData) (vs : List Value), WellAll Pm h vs ds → plWs ds = true → (∀ u ∈ vs, OkU A u) → DwAll K (argH K h A) (vs.map toV) ds
  | [], _, x, _, _ => by
    cases x
    exact .nil
  | d :: ds, _, x, p, hu => by
    obtain ⟨v, vs, rfl, x1, x2⟩ := well_cons x
    have q : plW d = true ∧ plWs ds = true := Bool.and_eq_true_iff.mp p
    exact .cons (dw_one KX ar d v x1 q.1 (hu _ (List.mem_cons_self ..))) (dw_all KX ar ds vs x2 q.2 fun u m => hu u (List.mem_cons_of_mem _ m))
end
end
/-! ### the call -/
theorem spec_call {P : Program} {w : World} {K : PySem.W.Frag} {mg mb : Str → Option Value} {CX : CXT} {k : Nat} {fa : Addr} {fd : FuncData} {ps : List Str} {sp : Sp} {s₁ : Shared} {vals : List Value} {ds : List WData} {R : PySem.W.WRecords} {cl : Str → Option Addr} {d0 : WData}
    (KX : K.In s₁.heap) (hns : s₁.heap.Ns mainGlobals mg) (hb : s₁.heap.Ns builtinsNs mb) (hbb : ∀ x : Str, x ≠ "__name__" → mb x = bootBuiltins x) (hlim : s₁.heap.NoLimit) (hg : s₁.gens = #[])
    (hwl : WellAll w.params s₁.heap vals ds) (hpl : plWs ds = true) (hwt : ∀ d ∈ ds, d.weight ≤ 1048576) (hr : Room k callerA)
    (F : ∀ base : Heap, K.In base → base.Ns mainGlobals mg → FnOk P w K mg base CX k fa fd ps sp) (hbind : ∀ (s : Shared) (us : List Value), us.length = ps.length → BindsTo s fd ⟨us, []⟩ (ps.zip us)) (hlen : ds.length = ps.length)
    (hsp : ∀ (H : Hp) (xs : List V), OnlyF H → DwAll K H xs ds → sp xs H (fun v H' => Dw K H' v d0) fun _ _ _ => False)
    (hCX : ∀ H e s', CX [] H s₁ (fun _ _ _ => False) e s' → False) :
    codeAny (model P w) callerA (.call (.ref fa) ⟨vals, []⟩) (fun r s' => ∃ u as, r = .ok (.ret u) ∧ ReadsW R cl s'.heap u d0 as ∧ OldK s₁.heap s'.heap ∧ s'.os = s₁.os ∧ AllBare s'.gens) s₁ := by
  obtain ⟨A, ho, ar⟩ := area_all ds vals hwl hpl hwt
  have hO : OnlyF (argH K s₁.heap A) := argH_only ar
  have hok : HOk P w (argH K s₁.heap A) s₁.heap := argH_ok ar
  have hS := dw_all KX ar ds vals hwl hpl ho
  have hV := vals_toV ho
  have hK : ∀ b u, argH K s₁.heap A b = some u → K.lookup b = none := fun b u q => (argH_is ar q).1
  have noA : ∀ {b : Addr} {o : Obj} {es : Array DictEntry} {ep : Nat}, s₁.heap.get? b = some o → o.data = .dict es ep → argH K s₁.heap A b = none := fun {b o es ep} e d => by
    cases q : argH K s₁.heap A b with
    | none => rfl
    | some u =>
      obtain ⟨_, vs, _, _, ⟨e2, _⟩ | ⟨e2, _⟩⟩ := argH_is ar q
      · rw [e2] at e
        cases e
        have d' : Data.seq vs.toArray _ = Data.dict es ep := d
        cases d'
      · rw [e2] at e
        cases e
        have d' : Data.seq vs.toArray _ = Data.dict es ep := d
        cases d'
  generalize argH K s₁.heap A = H at hO hok hS hK noA
  have base_of : ∀ {b : Addr} {o : Obj}, s₁.heap.get? b = some o → H b = none → (hidT s₁.heap H).get? b = some o := fun e n => hidT_get e n
  have nsK : ∀ {b : Addr} {m : Str → Option Value}, s₁.heap.Ns b m → (hidT s₁.heap H).Ns b m := fun {b m} ⟨o, es, ep, e, d, r⟩ => ⟨o, es, ep, base_of e (noA e d), d, r⟩
  have nK : ∀ b o, K.lookup b = some o → H b = none := fun b o e => by
    cases q : H b with
    | none => rfl
    | some u =>
      rw [hK b u q] at e
      cases e
  have hKb : K.In (hidT s₁.heap H) := fun b o e => base_of (KX b o e) (nK b o e)
  have hM : Mod K mg (hidT s₁.heap H) := ⟨hKb, nsK hns, ⟨mb, nsK hb, hbb⟩, let ⟨mc, h1, h2⟩ := hlim; ⟨mc, nsK h1, h2⟩⟩
  have e0 : Env0 P w K mg (hidT s₁.heap H) callerA [] s₁ H := ⟨rfl, hM, fun b o e => of_hidT e, Nat.le_of_eq (hidT_size _ _), trivial, fun b hb => absurd (show b ∈ ([] : List Addr) from hb) (by simp), hok, .of_eq hg⟩
  have hl : vals.length = ps.length := by rw [wellAll_len hwl]; exact hlen
  refine codeAny_mono ((F _ hKb (nsK hns)).run callerA [] s₁ H ⟨vals, []⟩ vals (vals.map toV) _ _ hr e0 (hbind s₁ vals hl) hV (hsp H _ hO hS)) fun r s' x => ?_
  cases r with
  | error e => exact (hCX H e s' x).elim
  | ok fl =>
    cases fl with
    | next => exact False.elim x
    | brk => exact False.elim x
    | cont => exact False.elim x
    | ret u =>
      obtain ⟨v, H', os, bare, un, hok', r', q⟩ := x
      have kept : ∀ b o, s₁.heap.get? b = some o → s'.heap.get? b = some o := fun b o e => by
        cases q2 : H b with
        | none => exact un.keep b o e q2 (by intro z; exact absurd (show b ∈ ([] : List Addr) from z) (by simp)) (by simp)
        | some u2 =>
          rcases hO b with z | ⟨ob, u3, z⟩
          · rw [q2] at z
            cases z
          · have z2 := un.frzs b ob _ z
            obtain ⟨e1, _⟩ := hok b _ z
            obtain ⟨e2, _⟩ := hok' b _ z2
            rw [e] at e1
            cases e1
            exact e2
      have KX' : K.In s'.heap := fun b o e => kept b o (KX b o e)
      obtain ⟨as, hrd⟩ := Dw.reads (R := R) (cl := cl) hok' KX' d0 v u q r'
      exact ⟨u, as, rfl, hrd, OldK.of_keep kept, os, bare⟩
/-! ### the row -/
theorem layable_weight {ds : List WData} (h : WData.layableAll ds = true) : ∀ d ∈ ds, d.weight ≤ 1048576 := fun d hd =>
  (PySem.W.layableW_iff.mp (List.all_eq_true.mp h d hd)).2.2
theorem encAll_len : ∀ (cs : List Codec) (a : Codec.denoteAll cs), (Codec.encAll cs a).length = cs.length
  | [], _ => rfl
  | c :: cs, a => by
    show (Codec.encAll cs a.2).length + 1 = cs.length + 1
    rw [encAll_len cs a.2]
/-- the goal that k_headS leaves (case hc), from the promise of the row's def: whatever the arguments that the codecs let and the row asks for, the def gives what stands for enc (f ..) -/
theorem walk_spec {r : OpenSpec} {k : Nat} {q : Program} {loose : List Str} {XP : (Str → Option Value) → Heap → Prop} {YP : World → Heap → Prop} {d : DefRec} {K : Params → PySem.W.Frag} {CX : World → CXT} {ps : List Str} {sp : World → Sp}
    (hwell : r.wellSaid = true) (hdf : d.params.defaults = []) (hlen : r.args.length = ps.length) (hr : Room k callerA)
    (hY : ∀ (w : World) (h : Heap), YP w h → (K w.params).In h)
    (F : ∀ (w : World) (mg : Str → Option Value) (fa : Addr) (h : Heap), YP w h → (K w.params).In h → h.Ns mainGlobals mg → mg d.name = some (.ref fa) →
      ∃ fd : FuncData, (∀ (s : Shared) (us : List Value), us.length = ps.length → BindsTo s fd ⟨us, []⟩ (ps.zip us)) ∧
        ∀ base : Heap, (K w.params).In base → base.Ns mainGlobals mg → FnOk r.prog w (K w.params) mg base (CX w) k fa fd ps (sp w))
    (hsp : ∀ (w : World) (H : Hp) (xs : List V) (a : Codec.denoteAll r.args), OnlyF H → Codec.withinAll r.args a = true → Codec.app r.args r.asked a = true → DwAll (K w.params) H xs (Codec.encAll r.args a) →
      sp w xs H (fun v H' => Dw (K w.params) H' v (r.ret.enc (Codec.app r.args r.f a))) fun _ _ _ => False)
    (hCX : ∀ (w : World) (H : Hp) (s : Shared) (e : Value) (s' : Shared), CX w [] H s (fun _ _ _ => False) e s' → False) :
    PySem.W.WalkOS q loose XP YP r d [] (fun f vs => PySem.call f vs) := by
  intro w s_0 s₁ mg mb G Y fa o pm cd doc dV kV ho hd hcd hD hmg hg args vals as hpre hlay hrd hwl hlo
  obtain ⟨a, e1, e2⟩ := PySem.W.os_pre_some hpre
  obtain ⟨e3, hwi⟩ := Codec.encAll_of_decAll r.args args a e1
  subst e3
  have KX := hY w _ Y
  obtain ⟨fd, hb, hF⟩ := F w mg fa _ Y KX G.T.g hmg
  refine PySem.W.enter_call (codeAny_mono (spec_call (R := []) (cl := classAt s_0.heap) (d0 := r.ret.enc (Codec.app r.args r.f a)) KX G.T.g G.T.b G.T.builtins G.T.nolimit hg hwl (pl_encAll _ _) (layable_weight hlay) hr hF hb (by rw [encAll_len]; exact hlen)
    (fun H xs hO hS => hsp w H xs a hO hwi e2 hS) fun H e s' => hCX w H s₁ e s') fun r' s' hq => ?_)
  obtain ⟨u, as', rfl, h1, h2, h3, h4⟩ := hq
  exact ⟨.inl ⟨u, _, as', rfl, fun _ => rfl, h1, (OpenSpec.post_iff hwell hwi _ _).mpr rfl, fun z => Bool.noConfusion (show false = true from z)⟩, h2, h3, h4⟩
/-- the same where the promise hangs on the written part alone -/
theorem walk_specK {r : OpenSpec} {k : Nat} {q : Program} {loose : List Str} {XP : (Str → Option Value) → Heap → Prop} {YP : World → Heap → Prop} {d : DefRec} {K : Params → PySem.W.Frag} {CX : CXT} {ps : List Str} {sp : PySem.W.Frag → Sp}
    (hwell : r.wellSaid = true) (hdf : d.params.defaults = []) (hlen : r.args.length = ps.length) (hr : Room k callerA)
    (hY : ∀ (w : World) (h : Heap), YP w h → (K w.params).In h)
    (F : ∀ (w : World) (mg : Str → Option Value) (fa : Addr) (h : Heap), YP w h → (K w.params).In h → h.Ns mainGlobals mg → mg d.name = some (.ref fa) →
      ∃ fd : FuncData, (∀ (s : Shared) (us : List Value), us.length = ps.length → BindsTo s fd ⟨us, []⟩ (ps.zip us)) ∧
        ∀ base : Heap, (K w.params).In base → base.Ns mainGlobals mg → FnOk r.prog w (K w.params) mg base CX k fa fd ps (sp (K w.params)))
    (hsp : ∀ (K : PySem.W.Frag) (H : Hp) (xs : List V) (a : Codec.denoteAll r.args), OnlyF H → Codec.withinAll r.args a = true → Codec.app r.args r.asked a = true → DwAll K H xs (Codec.encAll r.args a) →
      sp K xs H (fun v H' => Dw K H' v (r.ret.enc (Codec.app r.args r.f a))) fun _ _ _ => False)
    (hCX : ∀ (H : Hp) (s : Shared) (e : Value) (s' : Shared), CX [] H s (fun _ _ _ => False) e s' → False) :
    PySem.W.WalkOS q loose XP YP r d [] (fun f vs => PySem.call f vs) :=
  walk_spec (K := K) (CX := fun _ => CX) (sp := fun w => sp (K w.params)) hwell hdf hlen hr hY F (fun w H xs a h1 h2 h3 h4 => hsp (K w.params) H xs a h1 h2 h3 h4) fun _ H s e s' => hCX H s e s'
end L2
end

end

section
set_option Elab.async false
set_option linter.all false
set_option maxRecDepth 100000
namespace L2
open PySem PySem.Spec PyProof.Rows
/-! ### zip of a text of ASCII signs and a list -/
section
variable {prog : Program} {w : World} {A : Around} {E : Value → Shared → Prop} {s : Shared}
abbrev AIt (h : Heap) (i : Addr) (x : Str) (t : Tok) (k : Nat) : Prop := h.IsStrIter i "str_ascii_iterator" x t k
theorem zs_item {z p q i j l : Addr} {x : Str} {t : Tok} {m n c : Nat} {ys : Array Value} {y a b : Value} {Q : Value → Shared → Prop} (D : ZipApart z p q i j l l)
    (gz : IsZip s.heap z p q .none) (gp : IsPair s.heap p (.ref i) (.ref j)) (gq : IsPair s.heap q a b) (gi : AIt s.heap i x t m) (gj : s.heap.IsListIter j l n) (gl : s.heap.IsList l ys)
    (ex : x.cps[m]? = some c) (ey : ys[n]? = some y)
    (fin : ∀ h', IsZip h' z p q (rawInt s.heap.objs.size) → IsPair h' q (.str ⟨#[c]⟩ s.toks) y → AIt h' i x t (m + 1) → h'.IsListIter j l (n + 1) → IsPair h' s.heap.objs.size (.str ⟨#[c]⟩ s.toks) y → h'.objs.size = s.heap.objs.size + 1 →
      (∀ d o, d ≠ z → d ≠ q → d ≠ i → d ≠ j → s.heap.get? d = some o → h'.get? d = some o) → Q (.ref s.heap.objs.size) { s with heap := h', toks := s.toks + 1 }) :
    wpAny (model prog w) A (Builtin.«zip.__next__» ⟨[.ref z], []⟩) (fun f s' => ∃ v, f = .done (.ret v) ∧ Q v s') E s := by
  show wpAny (model prog w) A (field (.ref z) 2 >>= _) _ E s
  refine wpAny_bind (wpAny_field gz rfl (x := .bool false) rfl ?_)
  show wpAny (model prog w) A (field (.ref z) 3 >>= _) _ E s
  refine wpAny_bind (wpAny_field gz rfl (x := .ref p) rfl (wpAny_bind (wpAny_seqItems gp rfl ?_)))
  show wpAny (model prog w) A (Builtin.SmallTypes.ownedTupleIsFree (.ref z) >>= _) _ E s
  refine wpAny_bind ?_
  unfold Builtin.SmallTypes.ownedTupleIsFree
  refine wpAny_bind (wpAny_field gz rfl (x := .none) rfl (wpAny_pure ?_))
  simp only [if_true]
  refine wpAny_bind (wpAny_rule (wpAny_bind (wpAny_field gz rfl (x := .ref q) rfl (wpAny_bind (wpAny_setField_rec gz (by simp) fun e1 gz1 r1 => wpAny_bind ?_)))))
  replace gz1 : IsZip e1 z p q .ellipsis := gz1
  simp only [List.zipIdx_cons, List.zipIdx_nil, List.forIn_cons, List.forIn_nil]
  have gi1 : AIt e1 i x t m := gi.extBut r1.extBut D.i1z
  refine wpAny_bind (wpAny_bind (wpAny_onRaise ?_))
  show wpAny (model prog w) A (Builtin.SmallTypes.nextOf (.ref i) >>= _) _ _ _
  refine wpAny_bind (wpAny_nextOf_ascii_item gi1 ex fun e2 gi2 r2 => wpAny_pure ?_)
  have gq2 : IsPair e2 q a b := r2.extBut _ _ D.TOi1 (r1.extBut _ _ D.TOz gq)
  refine wpAny_bind (wpAny_seqItems gq2 rfl (wpAny_bind (wpAny_updateSeq_pair gq2 fun e3 gq3 r3 => wpAny_bind (wpAny_letGo (wpAny_pure ?_)))))
  replace gq3 : IsPair e3 q (.str ⟨#[c]⟩ s.toks) b := gq3
  have gj3 : e3.IsListIter j l n := ((gj.extBut r1.extBut D.i2z).extBut r2.extBut D.i12.symm).extBut r3.extBut D.TOi2.symm
  have gl3 : e3.IsList l ys := ((gl.extBut r1.extBut D.l2z).extBut r2.extBut D.l2i1).extBut r3.extBut D.l2TO
  refine wpAny_bind (wpAny_bind (wpAny_onRaise ?_))
  show wpAny (model prog w) A (Builtin.SmallTypes.nextOf (.ref j) >>= _) _ _ _
  refine wpAny_bind (wpAny_nextOf_list_item gj3 gl3 ey fun e4 gj4 r4 => wpAny_pure ?_)
  have gq4 : IsPair e4 q (.str ⟨#[c]⟩ s.toks) b := r4.extBut _ _ D.TOi2 gq3
  refine wpAny_bind (wpAny_seqItems gq4 rfl (wpAny_bind (wpAny_updateSeq_pair gq4 fun e5 gq5 r5 => wpAny_bind (wpAny_letGo (wpAny_pure (wpAny_pure ?_))))))
  replace gq5 : IsPair e5 q (.str ⟨#[c]⟩ s.toks) y := gq5
  refine wpAny_bind (wpAny_seqItems gq5 rfl (wpAny_bind (wpAny_newTuple ?_)))
  have sz : e5.objs.size = s.heap.objs.size := by rw [r5.1, r4.1, r3.1, r2.1, r1.1]
  have gz5 : IsZip e5 z p q .ellipsis := r5.extBut _ _ D.TOz.symm (r4.extBut _ _ D.i2z.symm (r3.extBut _ _ D.TOz.symm (r2.extBut _ _ D.i1z.symm gz1)))
  have kp5 : ∀ d o, d ≠ z → d ≠ q → d ≠ i → d ≠ j → s.heap.get? d = some o → e5.get? d = some o := fun d o d1 d2 d3 d4 g =>
    r5.extBut _ _ d2 (r4.extBut _ _ d4 (r3.extBut _ _ d2 (r2.extBut _ _ d3 (r1.extBut _ _ d1 g))))
  have gi5 : AIt e5 i x t (m + 1) := ((gi2.extBut r3.extBut D.TOi1.symm).extBut r4.extBut D.i12).extBut r5.extBut D.TOi1.symm
  have gj5 : e5.IsListIter j l (n + 1) := gj4.extBut r5.extBut D.TOi2.symm
  have zlt : z < e5.objs.size := Heap.lt_size gz5
  show wpAny (model prog w) A (Builtin.SmallTypes.ownedTupleHandOut (.ref z) (.ref e5.objs.size) >>= _) _ _ _
  refine wpAny_bind ?_
  unfold Builtin.SmallTypes.ownedTupleHandOut
  have gz6 : IsZip (e5.push { cls := .type "tuple", data := .seq #[.str ⟨#[c]⟩ s.toks, y] }) z p q .ellipsis := Heap.get?_push_of_some _ gz5
  refine wpAny_bind (wpAny_setField_rec gz6 (by simp) fun e7 gz7 r7 => ?_)
  replace gz7 : IsZip e7 z p q (rawInt e5.objs.size) := gz7
  refine wpAny_setField_rec gz7 (by simp) fun e8 gz8 r8 => ?_
  replace gz8 : IsZip e8 z p q (rawInt e5.objs.size) := gz8
  have on : ∀ d o, d ≠ z → e5.get? d = some o → e8.get? d = some o := fun d o d1 g => r8.extBut _ _ d1 (r7.extBut _ _ d1 (Heap.get?_push_of_some _ g))
  have gt8 : IsPair e8 e5.objs.size (.str ⟨#[c]⟩ s.toks) y := r8.extBut _ _ (Nat.ne_of_gt zlt) (r7.extBut _ _ (Nat.ne_of_gt zlt) (Heap.get?_push_size _ rfl))
  have sz8 : e8.objs.size = e5.objs.size + 1 := by rw [r8.1, r7.1, Heap.size_push]
  rw [sz] at gz8 gt8 sz8
  refine wpAny_pure ⟨_, rfl, ?_⟩
  show Q (.ref e5.objs.size) _
  rw [sz]
  refine fin e8 gz8 (on _ _ D.TOz gq5) ?_ (gj5.at fun o g => on _ o D.i2z g) gt8 sz8 fun d o d1 d2 d3 d4 g => on d o d1 (kp5 d o d1 d2 d3 d4 g)
  obtain ⟨o, g, r⟩ := gi5
  exact ⟨o, on _ o D.i1z g, r⟩
theorem zs_next {z p q i j l : Addr} {x : Str} {t : Tok} {m n c : Nat} {ys : Array Value} {y a b : Value} {Q : Option Value → Shared → Prop} (D : ZipApart z p q i j l l)
    (gz : IsZip s.heap z p q .none) (gp : IsPair s.heap p (.ref i) (.ref j)) (gq : IsPair s.heap q a b) (gi : AIt s.heap i x t m) (gj : s.heap.IsListIter j l n) (gl : s.heap.IsList l ys)
    (ex : x.cps[m]? = some c) (ey : ys[n]? = some y)
    (fin : ∀ h', IsZip h' z p q (rawInt s.heap.objs.size) → IsPair h' q (.str ⟨#[c]⟩ s.toks) y → AIt h' i x t (m + 1) → h'.IsListIter j l (n + 1) → IsPair h' s.heap.objs.size (.str ⟨#[c]⟩ s.toks) y → h'.objs.size = s.heap.objs.size + 1 →
      (∀ d o, d ≠ z → d ≠ q → d ≠ i → d ≠ j → s.heap.get? d = some o → h'.get? d = some o) → Q (some (.ref s.heap.objs.size)) { s with heap := h', toks := s.toks + 1 }) :
    wpAny (model prog w) A (pyNext (.ref z)) Q E s := by
  have ty : s.TypeIs (.ref z) "zip" := ⟨_, gz, rfl⟩
  unfold pyNext
  refine wpAny_bind (wpAny_attempt (wpAny_callSpecial?_slot (name := Str.ofString "__next__") ty F.slot_zip_next (wpAny_call_entry F.slot_zip_next ty F.entry_zip_next ?_ (F.args_zip_next_1 _))))
  exact zs_item D gz gp gq gi gj gl ex ey fun h' a1 a2 a3 a4 a5 a6 a7 => wpAny_pure (fin h' a1 a2 a3 a4 a5 a6 a7)
/-- where the text is at its end -/
theorem zs_stop {z p q i j l : Addr} {x : Str} {t : Tok} {m : Nat} {a b : Value} {Q : Option Value → Shared → Prop} (hh : A.handled = none) (D : ZipApart z p q i j l l)
    (gz : IsZip s.heap z p q .none) (gp : IsPair s.heap p (.ref i) (.ref j)) (gq : IsPair s.heap q a b) (gi : AIt s.heap i x t m) (ex : x.cps[m]? = none)
    (fin : ∀ h', (∀ d o, d ≠ z → d ≠ q → d ≠ i → d ≠ j → s.heap.get? d = some o → h'.get? d = some o) → Q none { s with heap := h' }) : wpAny (model prog w) A (pyNext (.ref z)) Q E s := by
  have ty : s.TypeIs (.ref z) "zip" := ⟨_, gz, rfl⟩
  unfold pyNext
  refine wpAny_bind (wpAny_attempt (wpAny_callSpecial?_slot (name := Str.ofString "__next__") ty F.slot_zip_next (wpAny_call_entry F.slot_zip_next ty F.entry_zip_next ?_ (F.args_zip_next_1 _))))
  show wpAny (model prog w) _ (field (.ref z) 2 >>= _) _ _ s
  refine wpAny_bind (wpAny_field gz rfl (x := .bool false) rfl ?_)
  show wpAny (model prog w) _ (field (.ref z) 3 >>= _) _ _ s
  refine wpAny_bind (wpAny_field gz rfl (x := .ref p) rfl (wpAny_bind (wpAny_seqItems gp rfl ?_)))
  show wpAny (model prog w) _ (Builtin.SmallTypes.ownedTupleIsFree (.ref z) >>= _) _ _ s
  refine wpAny_bind ?_
  unfold Builtin.SmallTypes.ownedTupleIsFree
  refine wpAny_bind (wpAny_field gz rfl (x := .none) rfl (wpAny_pure ?_))
  simp only [if_true]
  refine wpAny_bind (wpAny_rule (wpAny_bind (wpAny_field gz rfl (x := .ref q) rfl (wpAny_bind (wpAny_setField_rec gz (by simp) fun e1 gz1 r1 => wpAny_bind ?_)))))
  replace gz1 : IsZip e1 z p q .ellipsis := gz1
  simp only [List.zipIdx_cons, List.zipIdx_nil, List.forIn_cons, List.forIn_nil]
  have gi1 : AIt e1 i x t m := gi.extBut r1.extBut D.i1z
  refine wpAny_bind (wpAny_bind (wpAny_onRaise ?_))
  show wpAny (model prog w) _ (Builtin.SmallTypes.nextOf (.ref i) >>= _) _ _ _
  refine wpAny_bind (wpAny_nextOf_ascii_end hh gi1 ex fun e2 v r2 hv => ?_)
  obtain ⟨ov, hov, hcv⟩ := hv
  have gz2 : IsZip e2 z p q .ellipsis := r2 _ _ D.i1z.symm gz1
  have vz : v ≠ z := fun g => by subst g; rw [gz2] at hov; cases hov; simp at hcv
  refine wpAny_setField_rec gz2 (by simp) fun e3 _ r3 => ?_
  refine wpAny_bind (wpAny_isInstance (T := "StopIteration") (b := true) ⟨ov, r3.extBut _ _ vz hov, hcv⟩ isSubtype_stop ?_)
  exact wpAny_pure (fin e3 fun d o d1 _ d3 _ g => r3.extBut _ _ d1 (r2 _ _ d3 (r1.extBut _ _ d1 g)))
end
end L2
end

section
set_option Elab.async false
set_option linter.all false
set_option maxRecDepth 100000
namespace L2
open PySem PySem.Spec PyProof.Rows
abbrev zsA (h : Heap) (x : Str) (t : Tok) : Heap := h.push { cls := .type "str_ascii_iterator", data := .fields #[.str x t, .int 0 0] }
abbrev zsB (h : Heap) (x : Str) (t : Tok) (l : Addr) : Heap := (zsA h x t).push { cls := .type "list_iterator", data := .fields #[.ref l, .int 0 0] }
abbrev zsC (h : Heap) (x : Str) (t : Tok) (l : Addr) : Heap := (zsB h x t l).push { cls := .type "tuple", data := .seq #[.ref h.objs.size, .ref (zsA h x t).objs.size] }
abbrev zsD (h : Heap) (x : Str) (t : Tok) (l : Addr) : Heap := (zsC h x t l).push { cls := .type "tuple", data := .seq #[.none, .none] }
abbrev zsE (h : Heap) (x : Str) (t : Tok) (l : Addr) : Heap := (zsD h x t l).push { cls := .type "zip", data := .fields #[.none, .bool false, .bool false, .ref (zsB h x t l).objs.size, .ref (zsC h x t l).objs.size] }
set_option maxHeartbeats 4000000 in
theorem meets_zs (x : Str) (t : Tok) (l : Addr) (ys : Array Value) (hx : x.cps.all (· < 128) = true) :
    Meets (Builtin.«zip.__new__» ⟨[.type "zip", .str x t, .ref l], []⟩) (fun _ R s => s.heap.IsList l ys ∧ R (.ok (.ret (.ref (zsD s.heap x t l).objs.size))) { s with heap := zsE s.heap x t l }) :=
  .of_wp fun prog w A R s h => by
    obtain ⟨hp, g, d, tk, os⟩ := s
    obtain ⟨hl, h⟩ := h
    have sub := sub_zip
    have hL : Heap.IsList (Shared.heap ⟨hp.push { cls := .type "str_ascii_iterator", data := .fields #[.str x t, .int 0 0] }, g, d, tk, os⟩) l ys := Heap.IsList.push hl _
    wp_walk using wpAny_pyIter_ascii hx, wpAny_pyIter_list hL
    exact ⟨_, rfl, h⟩
section
variable {prog : Program} {w : World} {A : Around} {E : Value → Shared → Prop} {s : Shared}
theorem call_zs {x : Str} {t : Tok} {l : Addr} {ys : Array Value} {Q : Value → Shared → Prop} (hx : x.cps.all (· < 128) = true) (hl : s.heap.IsList l ys)
    (h : ∀ h', IsZip h' (s.heap.objs.size + 4) (s.heap.objs.size + 2) (s.heap.objs.size + 3) .none → IsPair h' (s.heap.objs.size + 2) (.ref s.heap.objs.size) (.ref (s.heap.objs.size + 1)) →
      IsPair h' (s.heap.objs.size + 3) .none .none → AIt h' s.heap.objs.size x t 0 → h'.IsListIter (s.heap.objs.size + 1) l 0 → (∀ c o, s.heap.get? c = some o → h'.get? c = some o) → Q (.ref (s.heap.objs.size + 4)) { s with heap := h' }) :
    wpAny (model prog w) A (call (.type "zip") [.str x t, .ref l]) Q E s := by
  refine callType_new F.called_zip (by decide) (F.typeCall_zip_2 _ _) (F.newCall_zip_2 _ _) (fun obj => F.args_object_init_3 obj _ _) F.entry_zip_new (meets_zs x t l ys hx) ⟨hl, ?_⟩
  have a1 : (zsA s.heap x t).objs.size = s.heap.objs.size + 1 := Heap.size_push ..
  have a2 : (zsB s.heap x t l).objs.size = s.heap.objs.size + 2 := by rw [Heap.size_push, a1]
  have a3 : (zsC s.heap x t l).objs.size = s.heap.objs.size + 3 := by rw [Heap.size_push, a2]
  have a4 : (zsD s.heap x t l).objs.size = s.heap.objs.size + 4 := by rw [Heap.size_push, a3]
  have u5 : (zsE s.heap x t l).get? (zsD s.heap x t l).objs.size = some _ := Heap.get?_push_size _ rfl
  have u4 : (zsE s.heap x t l).get? (zsC s.heap x t l).objs.size = some _ := Heap.get?_push_of_some _ (Heap.get?_push_size _ rfl)
  have u3 : (zsE s.heap x t l).get? (zsB s.heap x t l).objs.size = some _ := Heap.get?_push_of_some _ (Heap.get?_push_of_some _ (Heap.get?_push_size _ rfl))
  have u2 : (zsE s.heap x t l).get? (zsA s.heap x t).objs.size = some _ := Heap.get?_push_of_some _ (Heap.get?_push_of_some _ (Heap.get?_push_of_some _ (Heap.get?_push_size _ rfl)))
  have u1 : (zsE s.heap x t l).get? s.heap.objs.size = some _ := Heap.get?_push_of_some _ (Heap.get?_push_of_some _ (Heap.get?_push_of_some _ (Heap.get?_push_of_some _ (Heap.get?_push_size _ rfl))))
  show _ ∧ _
  rw [a2, a3, a4] at u5
  rw [a1, a2] at u3
  rw [a3] at u4
  rw [a1] at u2
  rw [a4]
  exact ⟨⟨_, u5, rfl⟩, h _ u5 u3 u4 ⟨_, u1, rfl, rfl⟩ ⟨_, u2, rfl, rfl⟩ fun c o e => Heap.get?_push_of_some _ (Heap.get?_push_of_some _ (Heap.get?_push_of_some _ (Heap.get?_push_of_some _ (Heap.get?_push_of_some _ e))))⟩
end
/-- the signs of x and the items of the list at b, in new pairs; it stops where x does -/
def Itzs (K : PySem.W.Frag) (x : Str) (b : Addr) : It :=
  ⟨fun i H => i < x.cps.size ∧ ∃ (ys : List V) (y : V), SqL K H b ys ∧ ys[i]? = some y,
    fun i H v H' => ∃ T c y, v = .ref T ∧ H T = none ∧ H' = upd H T (.tup [.str ⟨#[c]⟩, y]) ∧ x.cps[i]? = some c ∧ ∀ ys, SqL K H b ys → ys[i]? = some y,
    fun i H => x.cps.size ≤ i⟩
theorem turn_zs {P : Program} {w : World} {K : PySem.W.Frag} {elts : List Expr} {kk : Nat} {tpos : Pos} {x : Str} {t : Tok} {b z p q i1 i2 : Addr} (D : ZipApart z p q i1 i2 b b) :
    Turn P w K (.Tuple elts kk tpos) (Itzs K x b) [z, p, q, i1, i2] z (fun i h => IsZip h z p q .none ∧ IsPair h p (.ref i1) (.ref i2) ∧ (∃ x y, IsPair h q x y) ∧ AIt h i1 x t i ∧ h.IsListIter i2 b i) where
  mem := by simp
  obj := fun i h st c hc => by
    obtain ⟨gz, gp, ⟨u, v, gq⟩, ⟨o1, e1, _, d1⟩, ⟨o2, e2, _, d2⟩⟩ := st
    have e' : c = z ∨ c = p ∨ c = q ∨ c = i1 ∨ c = i2 := by simpa using hc
    rcases e' with g | g | g | g | g
    · rw [g]; exact ⟨_, gz, fun v q => nomatch q⟩
    · rw [g]; exact ⟨_, gp, fun v q => nomatch q⟩
    · rw [g]; exact ⟨_, gq, fun v q => nomatch q⟩
    · rw [g]; exact ⟨o1, e1, fun v q => by rw [d1] at q; cases q⟩
    · rw [g]; exact ⟨o2, e2, fun v q => by rw [d2] at q; cases q⟩
  keep := fun i h h' st k => by
    obtain ⟨gz, gp, ⟨u, v, gq⟩, ⟨o1, e1, r1⟩, h2⟩ := st
    exact ⟨k z (by simp) _ gz, k p (by simp) _ gp, ⟨u, v, k q (by simp) _ gq⟩, ⟨o1, k i1 (by simp) o1 e1, r1⟩, h2.at fun o g => k i2 (by simp) o g⟩
  item := by
    intro X hP hw hK hc i pins s σ H E I hf st hg
    subst hP hw hK
    obtain ⟨gz, gp, ⟨x0, y0, gq⟩, g1, g2⟩ := st
    obtain ⟨hx, ys, y, hqy, hy⟩ := hg
    obtain ⟨its2, rv2, p2, _⟩ := I.list hqy
    obtain ⟨u2, hu2, ru2⟩ := rv2.get hy
    have ec : x.cps[i]? = some x.cps[i] := Array.getElem?_eq_getElem hx
    have hzl : z < s.heap.objs.size := Heap.lt_size gz
    refine zs_next D gz gp gq g1 g2 p2.isList ec (y := u2) (by simpa using hu2) fun h' z' q' g1' g2' hT hsz hk => ?_
    refine ⟨_, rfl, wpAny_letOwnedTupleGo_zip (s := { s with heap := h', toks := s.toks + 1 }) z' fun h'' z'' sb => ?_⟩
    have hT2 : h''.get? s.heap.objs.size = some { cls := .type "tuple", data := .seq #[.str ⟨#[x.cps[i]]⟩ s.toks, u2] } := (sb.2 _ (Nat.ne_of_gt hzl)).trans hT
    have new : ObjOk X.prog X.w (upd H s.heap.objs.size (.tup [.str ⟨#[x.cps[i]]⟩, y])) h'' s.heap.objs.size (.tup [.str ⟨#[x.cps[i]]⟩, y]) :=
      ⟨by show 2 ≤ sizeLine; decide, [.str ⟨#[x.cps[i]]⟩ s.toks, u2], .cons ⟨_, rfl⟩ (.cons ru2 .nil), ⟨_, hT2, rfl, _, rfl⟩⟩
    have I1 : Inv X pins σ (upd H s.heap.objs.size (.tup [.str ⟨#[x.cps[i]]⟩, y])) { s with heap := h'', toks := s.toks + 1 } :=
      I.turnedNew (ch := [z, p, q, i1, i2]) (fun c o hb g => (sb.2 c (fun q' => hb (by simp [q']))).trans (hk c o (fun q' => hb (by simp [q'])) (fun q' => hb (by simp [q'])) (fun q' => hb (by simp [q'])) (fun q' => hb (by simp [q'])) g)) hf (Nat.le_refl _) new
    refine ⟨.ref s.heap.objs.size, _, I1, rfl, ⟨_, x.cps[i], y, rfl, I.hok.fresh (Nat.le_refl _), rfl, ec, fun l hl => by rw [I.list_inj hl hqy]; exact hy⟩, ⟨z'', ?_, ⟨.str ⟨#[x.cps[i]]⟩ s.toks, u2, ?_⟩, ?_, ?_⟩, fun c hcm => ?_⟩
    · exact (sb.2 _ D.TIz).trans (hk _ _ D.TIz D.TITO D.TIi1 D.TIi2 gp)
    · exact (sb.2 _ D.TOz).trans q'
    · obtain ⟨o, g, r⟩ := g1'
      exact ⟨o, (sb.2 _ D.i1z).trans g, r⟩
    · exact g2'.at fun o g => (sb.2 _ D.i2z).trans g
    · have hlt : c < s.heap.objs.size := by
        have e' : c = z ∨ c = p ∨ c = q ∨ c = i1 ∨ c = i2 := by simpa using hcm
        rcases e' with g | g | g | g | g
        · rw [g]; exact hzl
        · rw [g]; exact Heap.lt_size gp
        · rw [g]; exact Heap.lt_size gq
        · rw [g]; obtain ⟨_, e1, _⟩ := g1; exact Heap.lt_size e1
        · rw [g]; obtain ⟨_, e2, _⟩ := g2; exact Heap.lt_size e2
      rw [upd_ne (Nat.ne_of_lt hlt)]
      exact (hf c hcm).1
  done := by
    intro X hP hw hK hc i pins s σ H E I hf st hg
    subst hP hw hK
    obtain ⟨gz, gp, ⟨x0, y0, gq⟩, g1, g2⟩ := st
    exact zs_stop (I.ok.hd hc) D gz gp gq g1 (Array.getElem?_eq_none hg) fun h' hk => ⟨rfl, I.turnedL (t' := s.toks) (ch := [z, p, q, i1, i2]) (fun c o hb g =>
      hk c o (fun q' => hb (by simp [q'])) (fun q' => hb (by simp [q'])) (fun q' => hb (by simp [q'])) (fun q' => hb (by simp [q'])) g) hf⟩
  self := fun A i s Q E st h => wpAny_pyIter_zip st.1 h
def iZs (K : PySem.W.Frag) (ta : TA) : TI := fun σ H R => ta σ H fun vs H1 => ∃ x b ys, vs = [.str x, .ref b] ∧ x.cps.all (· < 128) = true ∧ SqL K H1 b ys ∧ R (Itzs K x b) H1
theorem pi_zs {X : Cx} {e e2 : Expr} {ta : TA} {p pos tpos : Pos} {elts : List Expr} {kk : Nat} (hg : Gl X "zip") (hm : X.mg "zip" = none) (ha : PA X [e, e2] ta)
    (hs : starEach [e, e2] X.env = (false, eval e X.env) :: starEach [e2] X.env := by rfl) (hpl : (backTo pos (starEach [e2] X.env)).any (·.1) = false := by rfl) :
    PI X (.Tuple elts kk tpos) (.Call (.Name "zip" p) [e, e2] [] pos) (iZs X.K ta) := by
  intro pins s σ H R I h
  refine Call_ (ld_blt I hg hm boot_zip5 (PyProof.Rows.callWith_type1 (thn (ha pos pins s σ H _ I h) fun us s1 ⟨vs, H1, I1, r1, q1⟩ => ?_) hs hpl))
  obtain ⟨x, b, ys, ex, hx, hqy, g⟩ := q1
  subst ex
  cases r1 with
  | cons r rr =>
    cases rr with
    | cons r' rr =>
      cases rr
      obtain ⟨t, rfl⟩ := r
      cases r'
      obtain ⟨its2, rv2, p2, _⟩ := I1.list hqy
      have lb : b < s1.heap.objs.size := p2.lt
      refine call_zs hx p2.isList fun h' gz gp gq g1 g2 hk => wpAny_pyIter_zip gz ?_
      have I2 : Inv X pins σ H1 { s1 with heap := h' } := I1.kept (t' := s1.toks) hk
      refine ⟨s1.heap.objs.size + 4, [s1.heap.objs.size + 4, s1.heap.objs.size + 2, s1.heap.objs.size + 3, s1.heap.objs.size, s1.heap.objs.size + 1], _, _, H1, rfl, I2, turn_zs (PySem.W.ktu_apart s1.heap.objs.size b b lb lb), ⟨gz, gp, ⟨_, _, gq⟩, g1, g2⟩, fun c hcm => ?_, g⟩
      have hle : s1.heap.objs.size ≤ c := by
        have e' : c = s1.heap.objs.size + 4 ∨ c = s1.heap.objs.size + 2 ∨ c = s1.heap.objs.size + 3 ∨ c = s1.heap.objs.size ∨ c = s1.heap.objs.size + 1 := by simpa using hcm
        rcases e' with g | g | g | g | g
        · rw [g]; exact Nat.le_add_right _ _
        · rw [g]; exact Nat.le_add_right _ _
        · rw [g]; exact Nat.le_add_right _ _
        · rw [g]; exact Nat.le_refl _
        · rw [g]; exact Nat.le_add_right _ _
      exact I1.fpOk hle (I1.hok.fresh hle)
/-- over the signs of a text and a list that the body leaves as it is, as long as the text -/
theorem for_zs {K : PySem.W.Frag} {x : Str} {b : Addr} {ys : List V} {g : TG} {tb : TS} {D : Ends} {σ : St} {H : Hp} (Pv : Nat → St → Hp → Prop) (len : x.cps.size = ys.length) (h0 : Pv 0 σ H) (hl : ∀ i σ H, i ≤ ys.length → Pv i σ H → SqL K H b ys)
    (hs : ∀ i c y σ H T, x.cps[i]? = some c → ys[i]? = some y → H T = none → Pv i σ H → g (.ref T) σ (upd H T (.tup [.str ⟨#[c]⟩, y])) fun σ2 H2 => tb { D with nx := Pv (i + 1), ct := Pv (i + 1), bk := D.nx } σ2 H2) (hd : ∀ σ H, Pv ys.length σ H → D.nx σ H) :
    ∃ W : Nat → Nat → St → Hp → Prop, (∃ m, W 0 m σ H) ∧ ∀ i m σ H, W i m σ H →
      ((Itzs K x b).stop i H ∧ D.nx σ H) ∨ ((Itzs K x b).go i H ∧ ∃ N : St → Hp → Prop, (∀ σ' H', N σ' H' → ∃ m', m' < m ∧ W (i + 1) m' σ' H') ∧ ∀ v H', (Itzs K x b).yld i H v H' → g v σ H' fun σ2 H2 => tb { D with nx := N, ct := N, bk := D.nx } σ2 H2) := by
  refine ⟨fun i m σ H => m = ys.length - i ∧ i ≤ ys.length ∧ Pv i σ H, ⟨ys.length, by simp, Nat.zero_le _, h0⟩, ?_⟩
  rintro i m σ H ⟨rfl, hi, p⟩
  have q := hl i σ H hi p
  by_cases hlt : i < ys.length
  · refine .inr ⟨⟨by omega, ys, ys[i], q, by simp [hlt]⟩, Pv (i + 1), fun σ' H' p' => ⟨ys.length - (i + 1), by omega, rfl, hlt, p'⟩, fun v H' y => ?_⟩
    obtain ⟨T, c, y, rfl, hT, rfl, ec, ey⟩ := y
    exact hs i c y σ H T ec (ey ys q) hT p
  · have e : i = ys.length := by omega
    subst e
    exact .inl ⟨Nat.le_of_eq len, hd σ H p⟩
end L2
end

section
set_option Elab.async false
set_option linter.all false
set_option maxRecDepth 100000
namespace L2
open PySem PySem.Spec PyProof.Rows
/-! ### an f-string of a written text and an int -/
def tFstr (x : Str) (te : TE) : TE := fun σ H Q => te σ H fun v H1 => ∃ n : Nat, v = .int (n : Int) ∧ n < 1000 ∧ Q (.str (x ++ Str.ofString (toString (n : Int)))) H1
theorem pe_fstr {X : Cx} {x : Str} {e : Expr} {te : TE} {j : Nat} {p1 p2 pos : Pos} (he : PE X e te) (hx : x.length ≤ 1000 := by decide) : PE X (.JoinedStr [.Constant (.str x) j p1, .FormattedValue e (-1) none p2] pos) (tFstr x te) := by
  intro pins s σ H Q I h
  have ex : Str.empty ++ x = x := by
    show Str.append Str.empty x = x
    cases x
    simp [Str.append, Str.empty]
  have small : ∀ {n : Nat}, n ≤ 2000 → n ≤ sizeLine := fun {n} h => Nat.le_trans h (by decide)
  refine JoinedStr_many (joinParts_cons (Calls.Constant_str ?_))
  show (Str.empty ++ x).length ≤ sizeLine ∧ wpAny (model X.prog X.w) X.A (joinParts (Str.empty ++ x) (evalEach [.FormattedValue e (-1) none p2] X.env)) _ _ _
  rw [ex]
  refine ⟨small (by omega), joinParts_cons (FormattedValue_plain (thn (he pins _ σ H _ (I.tok _) h) fun v s1 ⟨y, H1, I1, r, n, ey, hn, q⟩ => ?_))⟩
  subst ey
  obtain ⟨t, rfl⟩ := r
  have hd : ((n : Int)).natAbs.log2 < 1920 := by
    rw [Int.natAbs_natCast]
    by_cases h0 : n = 0
    · subst h0; decide
    · exact (Nat.log2_lt h0).mpr (Nat.lt_of_lt_of_le hn (by decide +kernel))
  have hl : (x ++ Str.ofString (toString (n : Int))).length ≤ sizeLine := by
    rw [strLen_append]
    have h1 : (Str.ofString (toString (n : Int))).length = (TL.tl (Str.ofString (toString (n : Int)))).length := by
      simp [TL.tl, Str.length]
    rw [h1, TL.tl_num]
    have h2 := TL.numL_len (n := n) (k := 3) (by decide) (Nat.lt_of_lt_of_le hn (by decide))
    exact small (by omega)
  refine formatField_int_small hd ?_
  refine ⟨hl, joinParts_nil ?_ hl⟩
  exact ⟨.str (x ++ Str.ofString (toString (n : Int))), H1, (I1.tok _).tok _, ⟨_, rfl⟩, q⟩
end L2
end

section
set_option Elab.async false
set_option linter.all false
set_option maxRecDepth 100000
namespace L2
open PySem PySem.Spec PyProof.Rows
/-! ### tuples and dicts of the module, read off the written part -/
def absAll : List Value → Option (List V)
  | [] => some []
  | u :: us => match absV u, absAll us with
    | some x, some xs => some (x :: xs)
    | _, _ => none
theorem rel_abs {u : Value} {x : V} (h : absV u = some x) : RelV x u := by
  cases u <;> simp only [absV, Option.some.injEq, reduceCtorEq] at h <;> subst h <;> first | rfl | exact ⟨_, rfl⟩
theorem vals_abs : ∀ {us : List Value} {xs : List V}, absAll us = some xs → Vals xs us
  | [], xs, h => by cases h; exact .nil
  | u :: us, xs, h => by
    unfold absAll at h
    cases h1 : absV u with
    | none => rw [h1] at h; cases h
    | some x =>
      cases h2 : absAll us with
      | none => rw [h1, h2] at h; cases h
      | some ys =>
        rw [h1, h2] at h
        cases h
        exact .cons (rel_abs h1) (vals_abs h2)
def isTy (v : Value) (n : String) : Bool := match v with
  | .type m => m == n
  | _ => false
theorem isTy_eq {v : Value} {n : String} (h : isTy v n = true) : v = .type n := by
  cases v <;> simp only [isTy, Bool.false_eq_true, beq_iff_eq] at h
  rw [h]
def tupV (K : PySem.W.Frag) (a : Addr) : Option (List V) := match K.lookup a with
  | some o => if isTy o.cls "tuple" = true then (match o.data with | .seq its _ => absAll its.toList | _ => none) else none
  | none => none
theorem tupV_sq {K : PySem.W.Frag} {a : Addr} {xs : List V} {H : Hp} (h : tupV K a = some xs) (hl : xs.length ≤ sizeLine) : SqT K H a xs := by
  unfold tupV at h
  split at h
  · rename_i o ho
    split at h
    · rename_i hc
      split at h
      · rename_i its n hd
        have r := vals_abs h
        have e := r.length
        exact .inr ⟨o, its, n, ho, isTy_eq hc, hd, by rw [← Array.length_toList, ← e]; exact hl, r⟩
      · cases h
    · cases h
  · cases h
def itA (K : PySem.W.Frag) (a : Addr) (i : Nat) : Addr := match tupV K a with
  | some xs => (match xs[i]? with | some (.ref b) => b | _ => 0)
  | none => 0
def esOf (K : PySem.W.Frag) (a : Addr) : List DictEntry := match K.lookup a with
  | some o => (match o.data with | .dict es _ => es.toList | _ => [])
  | none => []
def isDc (K : PySem.W.Frag) (a : Addr) : Bool := match K.lookup a with
  | some o => isTy o.cls "dict" && (o.dict.isNone && (o.slots.isEmpty && (match o.data with | .dict _ _ => true | _ => false)))
  | none => false
def valA (K : PySem.W.Frag) (a : Addr) (i : Nat) : Addr := match (esOf K a)[i]? with
  | some e => (match e.val with | .ref b => b | _ => 0)
  | none => 0
/-- the dict of the module at a has these pairs -/
def KTab (P : Program) (w : World) (K : PySem.W.Frag) (a : Addr) (kvs : List (Key × V)) : Prop :=
  ∃ o es ep vs, K.lookup a = some o ∧ o.ExactDict ∧ o.data = .dict es ep ∧ KV kvs vs ∧ PySem.KeysOf (mixKind P w) es ∧ Pairs (mixKind P w) es.toList vs ∧ (vs.map (·.1)).Nodup
theorem pairs_mk {P : Program} {w : World} : ∀ (es : List DictEntry) (ks : List (Str × V)),
    es.map (·.hash) = ks.map (fun p => PyData.keyHash w.params p.1) → es.map (fun e => (absV e.key, absV e.val)) = ks.map (fun p => (some (V.str p.1), some p.2)) →
    (∀ e ∈ es, ∃ k : Key, (mixKind P w).is k e.key = true ∧ e.hash = (mixKind P w).hash k) ∧ ∃ vs : List (Key × Value), KV (ks.map fun p => (Sum.inr p.1, p.2)) vs ∧ Pairs (mixKind P w) es vs
  | [], [], _, _ => ⟨(fun e h => by cases h), [], .nil, .nil⟩
  | [], _ :: _, h, _ => by simp at h
  | _ :: _, [], h, _ => by simp at h
  | e :: es, p :: ks, h1, h2 => by
    rw [List.map_cons, List.map_cons, List.cons.injEq] at h1 h2
    obtain ⟨a1, b1⟩ := h1
    obtain ⟨a2, b2⟩ := h2
    obtain ⟨c1, vs, c2, c3⟩ := pairs_mk (P := P) es ks b1 b2
    have e1 : absV e.key = some (V.str p.1) := (Prod.mk.inj a2).1
    have e2 : absV e.val = some p.2 := (Prod.mk.inj a2).2
    obtain ⟨t, ht⟩ := (show ∃ t, e.key = Value.str p.1 t from rel_abs e1)
    have is : (mixKind P w).is (Sum.inr p.1) e.key = true := by rw [ht]; exact mixKind_str P w p.1 t
    refine ⟨fun e' he => ?_, (Sum.inr p.1, e.val) :: vs, .cons ⟨rfl, rel_abs e2⟩ c2, .cons is rfl c3⟩
    rcases List.mem_cons.mp he with q | q
    · subst q
      exact ⟨Sum.inr p.1, is, a1⟩
    · exact c1 e' q
theorem ktab_mk {P : Program} {w : World} {K : PySem.W.Frag} {a : Addr} {ks : List (Str × V)} (h0 : isDc K a = true)
    (h1 : (esOf K a).map (·.hash) = ks.map (fun p => PyData.keyHash w.params p.1)) (h2 : (esOf K a).map (fun e => (absV e.key, absV e.val)) = ks.map (fun p => (some (V.str p.1), some p.2)))
    (nd : (ks.map (·.1)).Nodup) : KTab P w K a (ks.map fun p => (Sum.inr p.1, p.2)) := by
  unfold isDc at h0
  unfold esOf at h1 h2
  cases ho : K.lookup a with
  | none => rw [ho] at h0; cases h0
  | some o =>
    rw [ho] at h0 h1 h2
    simp only [Bool.and_eq_true] at h0
    obtain ⟨g1, g2, g3, g4⟩ := h0
    dsimp only at h1 h2
    cases hd : o.data with
    | dict es ep =>
      rw [hd] at h1 h2
      dsimp only at h1 h2
      obtain ⟨c1, vs, c2, c3⟩ := pairs_mk (P := P) es.toList ks h1 h2
      refine ⟨o, es, ep, vs, ho, ⟨isTy_eq g1, by simpa using g2, by simpa using g3⟩, hd, c2, fun e he => c1 e (by simpa using he), c3, ?_⟩
      have ek : vs.map (·.1) = (ks.map fun p => ((Sum.inr p.1, p.2) : Key × V)).map (·.1) := c2.keys.symm
      rw [ek, List.map_map]
      have : ((fun x : Key × V => x.1) ∘ fun p : Str × V => ((Sum.inr p.1, p.2) : Key × V)) = (Sum.inr : Str → Key) ∘ fun p : Str × V => p.1 := rfl
      rw [this, ← List.map_map]
      exact nd.map _ (fun x y hxy h => hxy (Sum.inr.inj h))
    | _ => rw [hd] at g4; cases g4
/-- d[y], d a dict of the module -/
def tKGet (P : Program) (w : World) (K : PySem.W.Frag) (td ty : TE) : TE := fun σ H Q => td σ H fun x H1 => ty σ H1 fun y H2 => ∃ a kvs k v, x = .ref a ∧ KTab P w K a kvs ∧ y = kV k ∧ valV kvs k = some v ∧ Q v H2
theorem pe_kget {X : Cx} {o i : Expr} {pos : Pos} {td ty : TE} (ho : PE X o td) (hi : PE X i ty) (hs : NoSl i) : PE X (.Subscript o i pos) (tKGet X.prog X.w X.K td ty) := by
  intro pins s σ H Q I h
  refine subD_of PySem.F.slot_dict_getitem.lookup hs (thn (ho pins s σ H _ I h) fun u s1 ⟨x, H1, I1, rx, q1⟩ => thn (hi pins s1 σ H1 _ I1 q1) fun iv s2 ⟨y, H2, I2, ry, a, kvs, k, v, ex, g, ey, l, q2⟩ => ?_)
  subst ex ey
  obtain rfl : u = Value.ref a := rx
  obtain ⟨ob, es, ep, vs, g1, g2, g3, g4, g5, g6, g7⟩ := g
  have dd : s2.heap.DictOf (mixKind X.prog X.w) a vs := ⟨ob, es, ep, I2.kIn a ob g1, g2, g3, g5, g6, g7⟩
  obtain ⟨w', hw, rw'⟩ := RelO.some_of (v := v) (o := valueAt vs k) (by rw [← l]; exact g4.val k)
  exact ⟨dd.typeIs, wpAny_getItem_of (kV_is ry) dd.mapOf hw ⟨v, H2, I2.tok _, rw', q2⟩⟩
theorem valV_mem {kvs : List (Key × V)} {k : Key} {v : V} (hm : (k, v) ∈ kvs) (nd : (kvs.map (·.1)).Nodup) : valV kvs k = some v := by
  induction kvs with
  | nil => cases hm
  | cons p r ih =>
    rw [List.map_cons, List.nodup_cons] at nd
    rcases List.mem_cons.mp hm with q | q
    · subst q
      exact valV_pos rfl
    · have : p.1 ≠ k := fun z => nd.1 (by rw [z]; exact List.mem_map.mpr ⟨(k, v), q, rfl⟩)
      rw [valV_neg this]
      exact ih q nd.2
end L2
end

section
set_option Elab.async false
set_option linter.all false
set_option maxRecDepth 100000
namespace L2
open PySem PySem.Spec PyProof.Rows
/-! ### // by a positive divisor below 2^64 -/
def CDivL (i j : Int) : Prop := 0 < j ∧ j < 2 ^ 64
theorem op_fdivL {X : Cx} : OpR X (binaryOp .FloorDiv) (rI CDivL fun i j => .int (i / j)) := opI fun i j _ _ _ _ _ hc q => by
  have h1 : (0 : Int) < j := hc.1
  have h2 : j < 2 ^ 64 := hc.2
  refine floordiv_int (by omega) (by rw [Int.fdiv_eq_ediv_of_nonneg i (by omega)]; exact q) (.inl (PyProof.noPylong_of_log2 ?_))
  have h3 : j.natAbs ≠ 0 := by omega
  have h4 : j.natAbs < 2 ^ 64 := by omega
  have := (Nat.log2_lt h3).mpr h4
  omega
/-! ### for k in d, d a dict of the module -/
def Itkk (kvs : List (Key × V)) : It :=
  ⟨fun i H => i < kvs.length, fun i H x H' => H' = H ∧ ∃ k v, kvs[i]? = some (k, v) ∧ x = kV k, fun i H => kvs.length ≤ i⟩
theorem turn_kkeys {P : Program} {w : World} {K : PySem.W.Frag} {tg : Expr} {d : Addr} {o : Obj} {es : Array DictEntry} {ep : Nat} {kvs : List (Key × V)} {vs : List (Key × Value)} (it : Addr) (hlk : K.lookup d = some o) (hx : o.ExactDict) (hod : o.data = .dict es ep)
    (kv : KV kvs vs) (hk : PySem.KeysOf (mixKind P w) es) (hp : Pairs (mixKind P w) es.toList vs) (nd : (vs.map (·.1)).Nodup) : Turn P w K tg (Itkk kvs) [it] it (fun i h => h.IsKeyIter it d i kvs.length ep) where
  mem := by simp
  obj := fun i h st b hb => by
    have e : b = it := by simpa using hb
    subst e
    obtain ⟨oi, e, c, dd⟩ := st
    exact ⟨oi, e, fun v z => by rw [dd] at z; cases z⟩
  keep := fun i h h' st k => st.at fun oi e => k it (by simp) oi e
  item := by
    intro X hP hw hK hc i pins s σ H E I hf st hi
    subst hP hw hK
    obtain ⟨f0, f1, f2, f3, f4, f5⟩ := hf it (by simp)
    have hgd := I.kIn d o hlk
    have hm : s.heap.DictAt (mixKind X.prog X.w) d vs ep := ⟨o, es, hgd, hx, hod, hk, hp, nd⟩
    obtain ⟨⟨k, v⟩, hkv⟩ : ∃ p, kvs[i]? = some p := ⟨kvs[i], List.getElem?_eq_getElem hi⟩
    obtain ⟨u, hu, ru⟩ := kv_get kv hkv
    have hl : kvs.length = vs.length := Paired.length kv
    rw [hl] at st
    refine wpAny_pyNext_dict_item st hm hu fun key h' hkey st' sb => ?_
    have I1 : Inv X pins σ H { s with heap := h' } := I.turned (t' := s.toks) (fun b ob hb e => (sb.2 b hb).trans e) f0 f1 f3 f4 f5
    obtain ⟨oi, e, c, dd⟩ := id st'
    refine ⟨key, rfl, go_of (s := { s with heap := h' }) e c dd (by decide) ⟨kV k, H, I1, relV_key (show keyIs k key = true from hkey), ⟨rfl, k, v, hkv, rfl⟩, ?_, fun b hb => (hf b hb).1⟩⟩
    show h'.IsKeyIter it d (i + 1) kvs.length _
    rw [hl]
    exact st'
  done := by
    intro X hP hw hK hc i pins s σ H E I hf st hi
    subst hP hw hK
    obtain ⟨f0, f1, f2, f3, f4, f5⟩ := hf it (by simp)
    have hgd := I.kIn d o hlk
    have hsz : es.size = kvs.length := by
      have l1 := hp.length
      have l2 : kvs.length = vs.length := Paired.length kv
      rw [Array.length_toList] at l1
      omega
    exact next_key_end (I.ok.hd hc) st hgd hod hsz hi fun h' eb => ⟨rfl, I.turned (t' := s.toks) (fun b ob hb e => eb b ob hb e) f0 f1 f3 f4 f5⟩
  self := fun A i s Q E st h => wpAny_pyIter_keyiter st h
def iKKeys (P : Program) (w : World) (K : PySem.W.Frag) (td : TE) : TI := fun σ H R => td σ H fun x H1 => ∃ d kvs, x = .ref d ∧ (d == sysModules) = false ∧ KTab P w K d kvs ∧ R (Itkk kvs) H1
theorem pi_kkeys {X : Cx} {tg e : Expr} {td : TE} (he : PE X e td) : PI X tg e (iKKeys X.prog X.w X.K td) := by
  intro pins s σ H R I h
  refine thn (he pins s σ H _ I h) fun u s1 ⟨x, H1, I1, rx, d, kvs, ex, hs, kt, q⟩ => ?_
  subst ex
  obtain rfl : u = Value.ref d := rx
  obtain ⟨o, es, ep, vs, g1, g2, g3, g4, g5, g6, g7⟩ := kt
  have hsz : es.size = kvs.length := by
    have l1 := g6.length
    have l2 : kvs.length = vs.length := Paired.length g4
    rw [Array.length_toList] at l1
    omega
  refine iter_keys hs (I1.kIn d o g1) g2 g3 (pi_one (tk := s1.toks) I1 _ (turn_kkeys _ g1 g2 g3 g4 g5 g6 g7) ⟨_, Heap.get?_push_size _ rfl, rfl, ?_⟩ q)
  rw [hsz] <;> rfl
theorem for_kk {kvs : List (Key × V)} {g : TG} {tb : TS} {D : Ends} {σ : St} {H : Hp} (Pv : Nat → St → Hp → Prop) (h0 : Pv 0 σ H)
    (hs : ∀ i k v σ H, kvs[i]? = some (k, v) → Pv i σ H → g (kV k) σ H fun σ2 H2 => tb { D with nx := Pv (i + 1), ct := Pv (i + 1), bk := D.nx } σ2 H2) (hd : ∀ σ H, Pv kvs.length σ H → D.nx σ H) :
    ∃ W : Nat → Nat → St → Hp → Prop, (∃ m, W 0 m σ H) ∧ ∀ i m σ H, W i m σ H →
      ((Itkk kvs).stop i H ∧ D.nx σ H) ∨ ((Itkk kvs).go i H ∧ ∃ N : St → Hp → Prop, (∀ σ' H', N σ' H' → ∃ m', m' < m ∧ W (i + 1) m' σ' H') ∧ ∀ v H', (Itkk kvs).yld i H v H' → g v σ H' fun σ2 H2 => tb { D with nx := N, ct := N, bk := D.nx } σ2 H2) := by
  refine ⟨fun i m σ H => m = kvs.length - i ∧ i ≤ kvs.length ∧ Pv i σ H, ⟨kvs.length, by simp, Nat.zero_le _, h0⟩, ?_⟩
  rintro i m σ H ⟨rfl, hi, p⟩
  by_cases hlt : i < kvs.length
  · refine .inr ⟨hlt, Pv (i + 1), fun σ' H' p' => ⟨kvs.length - (i + 1), by omega, rfl, hlt, p'⟩, fun v H' y => ?_⟩
    obtain ⟨rfl, k, v, e, rfl⟩ := y
    exact hs i k v σ _ e p
  · have e : i = kvs.length := by omega
    subst e
    exact .inl ⟨Nat.le_refl _, hd σ H p⟩
end L2
end

section
set_option Elab.async false
set_option linter.all false
set_option maxHeartbeats 4000000
namespace En
open Sg06
/-! ### operands, shapes, reaches, runs of bits: what encode and decode share -/
structure Ops where
  d : Int
  a : Int
  b : Int
  n : Int
def Ops.put (o : Ops) (c : Nat) (v : Int) : Ops := if c = 100 then { o with d := v } else if c = 97 then { o with a := v } else if c = 98 then { o with b := v } else { o with n := v }
def isOp (c : Nat) : Bool := c == 100 || c == 97 || c == 98 || c == 110
def shape : Kind → List Nat
  | .r => [100, 44, 97, 44, 98]
  | .i => [100, 44, 97, 44, 110]
  | .m => [100, 44, 110, 40, 97, 41]
  | .h => [100, 44, 97, 44, 110]
  | .s => [98, 44, 110, 40, 97, 41]
  | .b => [97, 44, 98, 44, 110]
  | .u => [100, 44, 110]
  | .j => [100, 44, 110]
theorem find_range {q : Nat → Bool} {k n : Nat} (hk : k < n) (hq : q k = true) (hu : ∀ j, j < k → q j = false) : (List.range n).find? q = some k := by
  rw [List.find?_range_eq_some]
  exact ⟨hq, List.mem_range.mpr hk, fun j hj => by simp [hu j hj]⟩
def reachM : Kind → Int × Int × Int
  | .r => (0, 0, 1)
  | .i => (2048, 2047, 1)
  | .m => (2048, 2047, 1)
  | .h => (0, 31, 1)
  | .s => (2048, 2047, 1)
  | .b => (4096, 4094, 2)
  | .u => (0, 1048575, 1)
  | .j => (1048576, 1048574, 2)
theorem or_add {a b i : Nat} (h : a < 2 ^ i) : a ||| b * 2 ^ i = a + b * 2 ^ i := by
  rw [Nat.or_comm, Nat.mul_comm b, ← Nat.two_pow_add_eq_or_of_lt h]
  omega
def runs : Kind → List (Nat × Nat × Nat)
  | .r => []
  | .i => [(0, 4095, 20)]
  | .m => [(0, 4095, 20)]
  | .h => [(0, 31, 20)]
  | .s => [(5, 127, 25), (0, 31, 7)]
  | .b => [(12, 1, 31), (5, 63, 25), (1, 15, 8), (11, 1, 7)]
  | .u => [(0, 1048575, 12)]
  | .j => [(20, 1, 31), (1, 1023, 21), (11, 1, 20), (12, 255, 12)]
/-- a run of n's bits -/
def run (n : Int) (low mask : Nat) : Nat := (n / 2 ^ low % ((mask + 1 : Nat) : Int)).toNat
theorem rows_small : ∀ k, k < table.length → (rowOf k).op < 128 ∧ (rowOf k).f < 8 ∧ (rowOf k).g < 128 ∧
    ((rowOf k).kind ≠ .r → (rowOf k).kind ≠ .h → (rowOf k).g = 0) ∧ ((rowOf k).kind = .u ∨ (rowOf k).kind = .j → (rowOf k).f = 0) := by decide +kernel
theorem bits_lt (w hi lo m : Nat) (h : 2 ^ (hi - lo + 1) = m) : bits w hi lo < m := by
  unfold bits
  rw [h]
  exact Nat.mod_lt _ (by rw [← h]; exact Nat.two_pow_pos _)
end En
end

section
set_option Elab.async false
set_option linter.all false
set_option maxHeartbeats 4000000
namespace En
open Sg06
/-! ### a line cut into pieces, and its tokens -/
def mark (c : UInt8) : Bool := c == 40 || c == 41 || c == 44
def inner (c : UInt8) : Bool := !(blank c || mark c)
def pieces : Nat → Bytes → List Bytes
  | 0, _ => []
  | k + 1, s => match s.dropWhile blank with
    | [] => []
    | c :: r => if mark c = true then [c] :: pieces k r
      else ((c :: r).takeWhile inner) :: pieces k ((c :: r).dropWhile inner)
/-- the one token that a piece is -/
def tk (p : Bytes) : Option Tok := match p with
  | [] => none
  | c :: r =>
    if c = 44 then (if r = [] then some .comma else none)
    else if c = 40 then (if r = [] then some .open_ else none)
    else if c = 41 then (if r = [] then some .close else none)
    else if r.all alnum = true then
      (if c = 45 then (number r).bind fun n => if r.take 2 = [48, 120] then none else some (.num (-(n : Int)))
      else if letter c = true then some (.name (c :: r))
      else if digit c = true then (number (c :: r)).map fun n => .num n
      else none)
    else none
def tks (l : List Bytes) : Option (List Tok) := match l with
  | [] => some []
  | p :: r => (tk p).bind fun t => (tks r).map fun l => t :: l
def solid : Tok → Bool
  | .name _ => true
  | .num _ => true
  | _ => false
def isNum : Tok → Bool
  | .num _ => true
  | _ => false
/-- a number right behind a name or a number: no instruction's line has that -/
def bad : List Tok → Bool
  | t :: u :: l => (solid t && isNum u) || bad (u :: l)
  | _ => false

theorem bad_cons {t : Tok} {l : List Tok} (h : bad l = true) : bad (t :: l) = true := by
  cases l with
  | nil => simp [bad] at h
  | cons u l => simp [bad, h]

theorem takeWhile_all {p : UInt8 → Bool} : ∀ {s : Bytes}, s.all p = true → s.takeWhile p = s
  | [], _ => rfl
  | c :: s, h => by
    simp only [List.all_cons, Bool.and_eq_true] at h
    rw [List.takeWhile_cons, if_pos h.1, takeWhile_all h.2]
theorem all_takeWhile (p : UInt8 → Bool) : ∀ s : Bytes, (s.takeWhile p).all p = true
  | [] => rfl
  | c :: s => by
    rw [List.takeWhile_cons]
    split
    · rename_i h; rw [List.all_cons, h, all_takeWhile p s]; rfl
    · rfl
theorem inner_of_alnum {c : UInt8} (h : alnum c = true) : inner c = true := by
  simp only [alnum, letter, digit, Bool.or_eq_true, Bool.and_eq_true, decide_eq_true_eq] at h
  simp only [inner, blank, mark, Bool.not_eq_true', Bool.or_eq_false_iff, beq_eq_false_iff_ne, ne_eq]
  refine ⟨⟨?_, ?_⟩, ⟨?_, ?_⟩, ?_⟩ <;> rintro rfl <;> revert h <;> decide
theorem drop_len_takeWhile (p : UInt8 → Bool) : ∀ s : Bytes, s.drop (s.takeWhile p).length = s.dropWhile p
  | [] => rfl
  | c :: s => by
    rw [List.takeWhile_cons, List.dropWhile_cons]
    split
    · simpa using drop_len_takeWhile p s
    · rfl
/-- a run within a wider run -/
theorem run_in {p q : UInt8 → Bool} (hpq : ∀ c, p c = true → q c = true) : ∀ s : Bytes,
    s.takeWhile q = s.takeWhile p ++ (s.dropWhile p).takeWhile q ∧ s.dropWhile q = (s.dropWhile p).dropWhile q
  | [] => ⟨rfl, rfl⟩
  | c :: s => by
    by_cases h : p c = true
    · obtain ⟨h1, h2⟩ := run_in hpq s
      rw [List.takeWhile_cons, List.dropWhile_cons, List.takeWhile_cons, List.dropWhile_cons, if_pos h, if_pos h, if_pos (hpq c h), if_pos (hpq c h)]
      exact ⟨by rw [h1]; rfl, h2⟩
    · have e1 : (c :: s).takeWhile p = [] := by rw [List.takeWhile_cons, if_neg h]
      have e2 : (c :: s).dropWhile p = c :: s := by rw [List.dropWhile_cons, if_neg h]
      rw [e1, e2]
      exact ⟨rfl, rfl⟩
theorem dropWhile_head {p : UInt8 → Bool} : ∀ {s : Bytes} {c : UInt8} {r : Bytes}, s.dropWhile p = c :: r → p c = false
  | [], _, _, h => by simp at h
  | d :: s, c, r, h => by
    rw [List.dropWhile_cons] at h
    split at h
    · exact dropWhile_head h
    · rename_i hd
      cases h
      simpa using hd
theorem dropWhile_len (p : UInt8 → Bool) : ∀ s : Bytes, (s.dropWhile p).length ≤ s.length
  | [] => Nat.le_refl _
  | c :: s => by
    rw [List.dropWhile_cons]
    split
    · exact Nat.le_trans (dropWhile_len p s) (Nat.le_succ _)
    · exact Nat.le_refl _

def Rel (o : Option (List Tok)) (ps : List Bytes) : Prop := match o with
  | none => tks ps = none
  | some l => tks ps = some l ∨ (tks ps = none ∧ bad l = true)
theorem glue {t : Tok} {o : Option (List Tok)} {p : Bytes} {ps : List Bytes} (h : Rel o ps) (ht : tk p = some t) : Rel (o.map fun l => t :: l) (p :: ps) := by
  cases o with
  | none => 
    have h' : tks ps = none := h
    show tks (p :: ps) = none
    simp [tks, ht, h']
  | some l =>
    rcases (h : tks ps = some l ∨ (tks ps = none ∧ bad l = true)) with h | ⟨h, hb⟩
    · exact .inl (by simp [tks, ht, h])
    · exact .inr ⟨by simp [tks, ht, h], bad_cons hb⟩
theorem tks_none {p : Bytes} {ps : List Bytes} (h : tk p = none) : tks (p :: ps) = none := by simp [tks, h]
theorem Rel.none_of {ps : List Bytes} (h : tks ps = none) : Rel none ps := h
/-- within a piece, behind a run, a number follows or nothing does -/
theorem mid {c : UInt8} {r : Bytes} (hi : inner c = true) (ha : alnum c = false) : ∀ k, tokens k (c :: r) = none ∨ ∃ n l, tokens k (c :: r) = some (.num n :: l)
  | 0 => .inl rfl
  | k + 1 => by
    have hb : blank c = false := by
      simp only [inner, Bool.not_eq_true', Bool.or_eq_false_iff] at hi
      exact hi.1
    have hm : mark c = false := by
      simp only [inner, Bool.not_eq_true', Bool.or_eq_false_iff] at hi
      exact hi.2
    have hd : (c :: r).dropWhile blank = c :: r := by rw [List.dropWhile_cons, if_neg (by simp [hb])]
    have hl : letter c = false ∧ digit c = false := by simpa [alnum] using ha
    simp only [mark, Bool.or_eq_false_iff, beq_eq_false_iff_ne, ne_eq] at hm
    rw [tokens, hd]
    dsimp only
    rw [if_neg hm.2, if_neg hm.1.1, if_neg hm.1.2]
    by_cases h45 : c = 45
    · rw [if_pos h45]
      cases number (List.takeWhile alnum r) with
      | none => exact .inl rfl
      | some n =>
        rw [Option.bind_some]
        split
        · exact .inl rfl
        · cases tokens k (r.dropWhile alnum) with
          | none => exact .inl rfl
          | some l => exact .inr ⟨_, _, rfl⟩
    · rw [if_neg h45, if_neg (by simp [hl.1]), if_neg (by simp [hl.2])]
      exact .inl rfl
theorem take2 (r : Bytes) : (r.take 2 = [48, 120]) ↔ ((r.takeWhile alnum).take 2 = [48, 120]) := by
  match r with
  | [] => simp
  | [a] => 
    rw [List.takeWhile_cons]
    split <;> simp
  | a :: b :: r =>
    constructor
    · intro h
      simp only [List.take_succ_cons, List.take_zero, List.cons.injEq, and_true] at h
      obtain ⟨rfl, rfl⟩ := h
      rw [List.takeWhile_cons, if_pos (by decide), List.takeWhile_cons, if_pos (by decide)]
      rfl
    · intro h
      rw [List.takeWhile_cons] at h
      split at h
      · rw [List.takeWhile_cons] at h
        split at h
        · simpa using h
        · simp at h
      · simp at h
theorem number_alnum {b : Bytes} {n : Nat} (h : number b = some n) : b.all alnum = true := by
  have hx : ∀ c, (hexValue c).isSome = true → alnum c = true := by
    intro c hc
    unfold hexValue at hc
    split at hc
    · rename_i hd; simp [alnum, hd]
    · split at hc
      · rename_i h1
        have : letter c = true := by
          simp only [letter, Bool.or_eq_true, Bool.and_eq_true, decide_eq_true_eq]
          left
          exact ⟨h1.1, UInt8.le_trans h1.2 (by decide)⟩
        simp [alnum, this]
      · split at hc
        · rename_i h1
          have : letter c = true := by
            simp only [letter, Bool.or_eq_true, Bool.and_eq_true, decide_eq_true_eq]
            right
            exact ⟨h1.1, UInt8.le_trans h1.2 (by decide)⟩
          simp [alnum, this]
        · simp at hc
  unfold number at h
  split at h
  · rename_i t
    split at h
    · rename_i hh
      have h3 := hh.2.2
      rw [List.all_eq_true] at h3
      rw [List.all_cons, List.all_cons, List.all_eq_true.mpr (fun c hc => hx c (h3 c hc))]
      decide
    · cases h
  · split at h
    · rename_i hh
      have h3 := hh.2.2
      rw [List.all_eq_true] at h3
      exact List.all_eq_true.mpr fun c hc => by simp [alnum, h3 c hc]
    · cases h
theorem same_run {r : Bytes} (hw : (r.dropWhile alnum).takeWhile inner = []) : r.takeWhile inner = r.takeWhile alnum ∧ r.dropWhile inner = r.dropWhile alnum := by
  obtain ⟨h1, h2⟩ := run_in (p := alnum) (q := inner) (fun c h => inner_of_alnum h) r
  rw [hw, List.append_nil] at h1
  refine ⟨h1, ?_⟩
  rw [h2]
  cases hd : r.dropWhile alnum with
  | nil => rfl
  | cons c t =>
    rw [hd, List.takeWhile_cons] at hw
    split at hw
    · cases hw
    · rename_i hc; rw [List.dropWhile_cons, if_neg hc]
theorem more_run {r : Bytes} (hw : (r.dropWhile alnum).takeWhile inner ≠ []) : (r.takeWhile inner).all alnum = false ∧ ∃ c t, r.dropWhile alnum = c :: t ∧ inner c = true ∧ alnum c = false := by
  obtain ⟨h1, h2⟩ := run_in (p := alnum) (q := inner) (fun c h => inner_of_alnum h) r
  cases hd : r.dropWhile alnum with
  | nil => rw [hd] at hw; simp at hw
  | cons c t =>
    have ha := dropWhile_head hd
    have hi : inner c = true := by
      rw [hd, List.takeWhile_cons] at hw
      split at hw
      · assumption
      · exact absurd rfl hw
    refine ⟨?_, c, t, rfl, hi, ha⟩
    rw [h1, hd, List.takeWhile_cons, if_pos hi, List.all_append, List.all_cons, ha]
    simp
/-- a token of a run: the whole piece, or the line is no instruction's -/
theorem turn {k : Nat} {c : UInt8} {r : Bytes} {o : Option Tok} (hs : ∀ t, o = some t → solid t = true)
    (ih : Rel (tokens k (r.dropWhile alnum)) (pieces k (r.dropWhile alnum)))
    (h1 : ∀ r', r'.all alnum = true → r' = r.takeWhile alnum → tk (c :: r') = o) (h2 : ∀ r', r'.all alnum = false → tk (c :: r') = none) :
    Rel (o.bind fun t => (tokens k (r.dropWhile alnum)).map fun l => t :: l) ((c :: r.takeWhile inner) :: pieces k (r.dropWhile inner)) := by
  by_cases hw : (r.dropWhile alnum).takeWhile inner = []
  · obtain ⟨e1, e2⟩ := same_run hw
    rw [e1, e2]
    have e := h1 _ (all_takeWhile alnum r) rfl
    cases o with
    | none => exact tks_none e
    | some t => exact glue ih e
  · obtain ⟨e1, c', t', e2, hi, ha⟩ := more_run hw
    have e := h2 _ e1
    cases o with
    | none => exact tks_none e
    | some t =>
      rw [e2]
      rcases mid (r := t') hi ha k with q | ⟨n, l, q⟩
      · rw [q]; exact tks_none e
      · rw [q]
        refine .inr ⟨tks_none e, ?_⟩
        simp [bad, isNum, hs t rfl]
theorem rel : ∀ (k : Nat) (s : Bytes), s.length < k → Rel (tokens k s) (pieces k s)
  | 0, _, h => absurd h (Nat.not_lt_zero _)
  | k + 1, s, h => by
    rw [tokens, pieces]
    cases hd : s.dropWhile blank with
    | nil => exact .inl rfl
    | cons c r =>
      have hb := dropWhile_head hd
      have hl : r.length < k := by
        have := dropWhile_len blank s
        rw [hd, List.length_cons] at this
        omega
      have ih1 := rel k r hl
      have ih2 := rel k (r.dropWhile alnum) (Nat.lt_of_le_of_lt (dropWhile_len alnum r) hl)
      have hsp : ∀ r' : Bytes, ((c :: r).takeWhile alnum).length = 0 ∨ True := fun _ => .inr trivial
      dsimp only
      by_cases h44 : c = 44
      · subst h44
        rw [if_pos rfl, if_pos (by decide)]
        exact glue ih1 rfl
      by_cases h40 : c = 40
      · subst h40
        rw [if_neg (by decide), if_pos rfl, if_pos (by decide)]
        exact glue ih1 rfl
      by_cases h41 : c = 41
      · subst h41
        rw [if_neg (by decide), if_neg (by decide), if_pos rfl, if_pos (by decide)]
        exact glue ih1 rfl
      have hm : mark c = false := by simp [mark, h40, h41, h44]
      have hi : inner c = true := by simp [inner, hb, hm]
      rw [if_neg h44, if_neg h40, if_neg h41, if_neg (show ¬ mark c = true by simp [hm]), List.takeWhile_cons (p := inner), if_pos hi, List.dropWhile_cons (p := inner), if_pos hi]
      by_cases h45 : c = 45
      · subst h45
        rw [if_pos rfl]
        have e : ((number (r.takeWhile alnum)).bind fun n => if r.take 2 = [48, 120] then none else (tokens k (r.dropWhile alnum)).map fun l => Tok.num (-(n : Int)) :: l)
            = (((number (r.takeWhile alnum)).bind fun n => if (r.takeWhile alnum).take 2 = [48, 120] then none else some (Tok.num (-(n : Int)))).bind fun t => (tokens k (r.dropWhile alnum)).map fun l => t :: l) := by
          cases number (r.takeWhile alnum) with
          | none => rfl
          | some n =>
            simp only [Option.bind_some]
            by_cases q : r.take 2 = [48, 120]
            · rw [if_pos q, if_pos ((take2 r).mp q)]; rfl
            · rw [if_neg q, if_neg (fun z => q ((take2 r).mpr z))]; rfl
        rw [e]
        refine turn ?_ ih2 ?_ ?_
        · intro t ht
          cases hn : number (r.takeWhile alnum) with
          | none => rw [hn] at ht; cases ht
          | some n =>
            rw [hn, Option.bind_some] at ht
            split at ht
            · cases ht
            · cases ht; rfl
        · intro r' hr er
          subst er
          show (if r.takeWhile alnum |>.all alnum then _ else _) = _
          rw [hr]
          rfl
        · intro r' hr
          show (if r'.all alnum then _ else _) = _
          rw [hr]
          rfl
      rw [if_neg h45]
      by_cases hle : letter c = true
      · have ha : alnum c = true := by simp [alnum, hle]
        rw [if_pos hle, drop_len_takeWhile, List.takeWhile_cons (p := alnum), if_pos ha, List.dropWhile_cons (p := alnum), if_pos ha]
        refine turn (o := some (Tok.name (c :: r.takeWhile alnum))) (fun t ht => by cases ht; rfl) ih2 ?_ ?_
        · intro r' hr er
          subst er
          simp [tk, h40, h41, h44, h45, hr, hle]
        · intro r' hr
          simp [tk, h40, h41, h44, hr]
      · rw [if_neg hle]
        by_cases hdi : digit c = true
        · have ha : alnum c = true := by simp [alnum, hdi]
          rw [if_pos hdi, drop_len_takeWhile, List.takeWhile_cons (p := alnum), if_pos ha, List.dropWhile_cons (p := alnum), if_pos ha]
          have e : ((number (c :: r.takeWhile alnum)).bind fun n => (tokens k (r.dropWhile alnum)).map fun l => Tok.num n :: l)
            = (((number (c :: r.takeWhile alnum)).map fun n => Tok.num (n : Int)).bind fun t => (tokens k (r.dropWhile alnum)).map fun l => t :: l) := by
            cases number (c :: r.takeWhile alnum) <;> rfl
          rw [e]
          refine turn ?_ ih2 ?_ ?_
          · intro t ht
            cases hn : number (c :: r.takeWhile alnum) with
            | none => rw [hn] at ht; cases ht
            | some n => rw [hn] at ht; cases ht; rfl
          · intro r' hr er
            subst er
            simp [tk, h40, h41, h44, h45, hr, hle, hdi]
          · intro r' hr
            simp [tk, h40, h41, h44, hr]
        · rw [if_neg hdi]
          refine tks_none ?_
          simp [tk, h40, h41, h44, h45, hle, hdi]
/-! ### the operands -/
theorem ops_bad {k : Nat} {kd : Kind} {l : List Tok} {x : Ins} (h : operands k kd l = some x) : bad l = false ∧ ∀ t u, l = t :: u → isNum t = false := by
  unfold operands at h
  split at h
  all_goals first
    | (refine ⟨by simp [bad, isNum, solid], fun t u e => ?_⟩
       cases t with
       | num n => (cases e; simp [register] at h)
       | _ => rfl)
    | cases h
/-- what a list of tokens is -/
def insOf (l : List Tok) : Option Ins := match l with
  | .name x :: r => ((List.range table.length).find? fun k => ascii (rowOf k).name == x).bind fun k => (operands k (rowOf k).kind r).bind fun i => if i.ok = true then some i else none
  | _ => none
theorem insOf_bad {l : List Tok} (h : bad l = true) : insOf l = none := by
  unfold insOf
  split
  · rename_i x r
    cases hf : ((List.range table.length).find? fun k => ascii (rowOf k).name == x) with
    | none => rfl
    | some k =>
      rw [Option.bind_some]
      cases ho : operands k (rowOf k).kind r with
      | none => rfl
      | some i =>
        exfalso
        obtain ⟨h1, h2⟩ := ops_bad ho
        cases r with
        | nil => simp [bad] at h
        | cons u r =>
          simp only [bad, h1, Bool.or_false, Bool.and_eq_true] at h
          rw [h2 u r rfl] at h
          exact Bool.noConfusion h.2
  · rfl
theorem parse_pieces (s : Bytes) : parse s = (tks (pieces (s.length + 1) s)).bind insOf := by
  have h := rel (s.length + 1) s (Nat.lt_succ_self _)
  show (tokens (s.length + 1) s).bind insOf = _
  cases ht : tokens (s.length + 1) s with
  | none =>
    rw [ht] at h
    rw [show tks (pieces (s.length + 1) s) = none from h]
  | some l =>
    rw [ht] at h
    rcases (h : tks _ = some l ∨ (tks _ = none ∧ bad l = true)) with h | ⟨h, hb⟩
    · rw [h]
    · rw [h, Option.bind_some, insOf_bad hb]; rfl
end En
end

section
set_option Elab.async false
set_option linter.all false
set_option maxHeartbeats 4000000
namespace En
open Sg06
/-! ### the loop that cuts -/
def stepB (st : List Bytes × Bytes) (c : UInt8) : List Bytes × Bytes :=
  let st1 := if inner c = true then (st.1, st.2 ++ [c]) else if 0 < st.2.length then (st.1 ++ [st.2], []) else st
  if mark c = true then (st1.1 ++ [[c]], st1.2) else st1
def piecesM (s : Bytes) : List Bytes := ((s ++ [32]).foldl stepB ([], [])).1
def fin (p : Bytes) : List Bytes := if p = [] then [] else [p]
def cut : Bytes → Bytes → List Bytes
  | p, [] => fin p
  | p, c :: s => if inner c = true then cut (p ++ [c]) s else fin p ++ ((if mark c = true then [[c]] else []) ++ cut [] s)
theorem step_fin (ps : List Bytes) (p : Bytes) : (if 0 < p.length then (ps ++ [p], ([] : Bytes)) else (ps, p)) = (ps ++ fin p, []) := by
  cases p with
  | nil => simp [fin]
  | cons c p => simp [fin]
theorem fold_cut : ∀ (s : Bytes) (ps : List Bytes) (p : Bytes), ((s ++ [32]).foldl stepB (ps, p)).1 = ps ++ cut p s
  | [], ps, p => by
    show (stepB (ps, p) 32).1 = _
    have h1 : inner 32 = false := by decide
    have h2 : mark 32 = false := by decide
    simp only [stepB, h1, h2, Bool.false_eq_true, if_false, step_fin, cut]
  | c :: s, ps, p => by
    rw [List.cons_append, List.foldl_cons]
    by_cases hi : inner c = true
    · have hm : mark c = false := by
        simp only [inner, Bool.not_eq_true', Bool.or_eq_false_iff] at hi
        exact hi.2
      have e : stepB (ps, p) c = (ps, p ++ [c]) := by simp [stepB, hi, hm]
      rw [e, fold_cut s, cut, if_pos hi]
    · by_cases hm : mark c = true
      · have e : stepB (ps, p) c = (ps ++ fin p ++ [[c]], []) := by
          simp only [stepB, if_neg hi, if_pos hm, step_fin]
        rw [e, fold_cut s, cut, if_neg hi, if_pos hm]
        simp
      · have e : stepB (ps, p) c = (ps ++ fin p, []) := by
          simp only [stepB, if_neg hi, if_neg hm, step_fin]
        rw [e, fold_cut s, cut, if_neg hi, if_neg hm]
        simp
theorem cut_run : ∀ (s p : Bytes), p ≠ [] → cut p s = (p ++ s.takeWhile inner) :: cut [] (s.dropWhile inner)
  | [], p, h => by simp [cut, fin, h]
  | c :: s, p, h => by
    rw [cut, List.takeWhile_cons, List.dropWhile_cons]
    by_cases hi : inner c = true
    · rw [if_pos hi, if_pos hi, if_pos hi, cut_run s _ (by simp), List.append_assoc]
      rfl
    · rw [if_neg hi, if_neg hi, if_neg hi, List.append_nil]
      show fin p ++ _ = p :: cut [] (c :: s)
      rw [cut, if_neg hi]
      simp [fin, h]
theorem cut_blank : ∀ s : Bytes, cut [] s = cut [] (s.dropWhile blank)
  | [] => rfl
  | c :: s => by
    rw [List.dropWhile_cons]
    split
    · rename_i h
      have hi : inner c = false := by simp [inner, h]
      have hm : mark c = false := by
        simp only [blank, Bool.or_eq_true, beq_iff_eq] at h
        rcases h with rfl | rfl <;> decide
      rw [cut, if_neg (by simp [hi]), if_neg (by simp [hm]), cut_blank s]
      rfl
    · rfl
theorem pieces_cut : ∀ (k : Nat) (s : Bytes), s.length < k → pieces k s = cut [] s
  | 0, _, h => absurd h (Nat.not_lt_zero _)
  | k + 1, s, h => by
    rw [pieces, cut_blank s]
    have hl := dropWhile_len blank s
    cases hd : s.dropWhile blank with
    | nil => rfl
    | cons c r =>
      have hb := dropWhile_head hd
      rw [hd, List.length_cons] at hl
      dsimp only
      by_cases hm : mark c = true
      · have hi : inner c = false := by simp [inner, hm]
        rw [if_pos hm, cut, if_neg (by simp [hi]), if_pos hm, pieces_cut k r (by omega)]
        rfl
      · have hi : inner c = true := by simp [inner, hb, hm]
        rw [if_neg hm, cut, if_pos hi, List.nil_append, cut_run r [c] (by simp), List.takeWhile_cons, if_pos hi, List.dropWhile_cons, if_pos hi, pieces_cut k _ (Nat.lt_of_le_of_lt (dropWhile_len inner r) (by omega))]
        rfl
theorem piecesM_eq (s : Bytes) : piecesM s = pieces (s.length + 1) s := by
  rw [pieces_cut _ _ (Nat.lt_succ_self _), piecesM, fold_cut]
  rfl
theorem fin_ne {p q : Bytes} (h : q ∈ fin p) : q ≠ [] := by
  unfold fin at h
  split at h
  · cases h
  · rename_i hp
    rw [List.mem_singleton] at h
    subst h
    exact hp
theorem cut_ne : ∀ (s p : Bytes), ∀ q ∈ cut p s, q ≠ []
  | [], p, q, h => fin_ne h
  | c :: s, p, q, h => by
    rw [cut] at h
    split at h
    · exact cut_ne s _ q h
    · rcases List.mem_append.mp h with h | h
      · exact fin_ne h
      · rcases List.mem_append.mp h with h | h
        · split at h
          · rw [List.mem_singleton] at h; subst h; simp
          · cases h
        · exact cut_ne s _ q h
theorem piecesM_ne (s : Bytes) : ∀ q ∈ piecesM s, q ≠ [] := by
  rw [piecesM, fold_cut]
  exact cut_ne s []
theorem parse_eq (s : Bytes) : parse s = (tks (piecesM s)).bind insOf := by
  rw [piecesM_eq, parse_pieces]

/-! ### numbers -/
def digitM (c : UInt8) : Nat := if 48 ≤ c ∧ c ≤ 57 then c.toNat - 48 else if 97 ≤ c ∧ c ≤ 102 then c.toNat - 97 + 10 else if 65 ≤ c ∧ c ≤ 70 then c.toNat - 65 + 10 else 16
def foldM (base : Nat) : Bytes → Nat → Option Nat
  | [], v => some v
  | c :: r, v => if base ≤ digitM c then none else foldM base r (v * base + digitM c)
def valueM (b : Bytes) (base most : Nat) : Option Nat := if b.length = 0 ∨ most < b.length then none else foldM base b 0
def numberM (p : Bytes) : Option Int :=
  if p.take 2 = [48, 120] then (valueM (p.drop 2) 16 8).map fun n => (n : Int)
  else if p.take 1 ≠ [45] then (valueM p 10 10).map fun n => (n : Int)
  else (valueM (p.drop 1) 10 10).map fun n => -(n : Int)
theorem digitM_hex (c : UInt8) : (hexValue c).getD 16 = digitM c ∧ ((hexValue c).isSome = true ↔ digitM c < 16) := by
  unfold hexValue digitM digit
  have e : (decide (48 ≤ c) && decide (c ≤ 57)) = true ↔ (48 ≤ c ∧ c ≤ 57) := by simp
  have hc : c.toNat < 256 := c.toNat_lt
  by_cases h1 : 48 ≤ c ∧ c ≤ 57
  · rw [if_pos (e.mpr h1), if_pos h1]
    have h2 : c.toNat ≤ 57 := h1.2
    simp; omega
  · rw [if_neg (fun q => h1 (e.mp q)), if_neg h1]
    by_cases h2 : 97 ≤ c ∧ c ≤ 102
    · rw [if_pos h2, if_pos h2]
      have h3 : c.toNat ≤ 102 := h2.2
      have h4 : 97 ≤ c.toNat := h2.1
      simp; omega
    · rw [if_neg h2, if_neg h2]
      by_cases h3 : 65 ≤ c ∧ c ≤ 70
      · rw [if_pos h3, if_pos h3]
        have h5 : c.toNat ≤ 70 := h3.2
        have h4 : 65 ≤ c.toNat := h3.1
        simp; omega
      · rw [if_neg h3, if_neg h3]
        simp
theorem digitM_dec (c : UInt8) : digit c = true ↔ digitM c < 10 := by
  unfold digitM digit
  have e : (decide (48 ≤ c) && decide (c ≤ 57)) = true ↔ (48 ≤ c ∧ c ≤ 57) := by simp
  rw [e]
  by_cases h1 : 48 ≤ c ∧ c ≤ 57
  · rw [if_pos h1]
    have h2 : c.toNat ≤ 57 := h1.2
    have h3 : 48 ≤ c.toNat := h1.1
    simp [h1]; omega
  · rw [if_neg h1]
    simp only [h1, false_iff]
    split
    · omega
    · split <;> omega
theorem hexValue_digitM {c : UInt8} (h : digitM c < 16) : (hexValue c).getD 0 = digitM c := by
  obtain ⟨h1, h2⟩ := digitM_hex c
  have := h2.mpr h
  cases q : hexValue c with
  | none => rw [q] at this; cases this
  | some v => rw [q] at h1; exact h1
theorem foldM_eq (base : Nat) (hb : base ≤ 16) : ∀ (b : Bytes) (v : Nat), foldM base b v = if (b.all fun c => decide (digitM c < base)) = true then some (b.foldl (fun n c => base * n + (hexValue c).getD 0) v) else none
  | [], v => rfl
  | c :: b, v => by
    rw [foldM, List.all_cons, List.foldl_cons]
    by_cases h : base ≤ digitM c
    · rw [if_pos h, if_neg (by simp; intro q; omega)]
    · rw [if_neg h, foldM_eq base hb b, hexValue_digitM (by omega), Nat.mul_comm v base]
      simp [show digitM c < base by omega]
theorem valueM_dec (b : Bytes) : valueM b 10 10 = if b ≠ [] ∧ b.length ≤ 10 ∧ b.all digit = true then some (value 10 b) else none := by
  unfold valueM
  have e : (b.all fun c => decide (digitM c < 10)) = b.all digit := by
    congr 1
    funext c
    rw [Bool.eq_iff_iff, decide_eq_true_eq, digitM_dec]
  by_cases h0 : b = []
  · subst h0; rfl
  · have h0' : ¬ b.length = 0 := fun q => h0 (List.length_eq_zero_iff.mp q)
    by_cases h1 : 10 < b.length
    · rw [if_pos (.inr h1), if_neg (by rintro ⟨_, h, _⟩; omega)]
    · rw [if_neg (by rintro (h | h) <;> omega), foldM_eq 10 (by decide), e]
      by_cases h2 : b.all digit = true
      · rw [if_pos h2, if_pos ⟨h0, by omega, h2⟩]
        rfl
      · rw [if_neg h2, if_neg (fun q => h2 q.2.2)]
theorem valueM_hex (b : Bytes) : valueM b 16 8 = if b ≠ [] ∧ b.length ≤ 8 ∧ (b.all fun c => (hexValue c).isSome) = true then some (value 16 b) else none := by
  unfold valueM
  have e : (b.all fun c => decide (digitM c < 16)) = b.all fun c => (hexValue c).isSome := by
    congr 1
    funext c
    rw [Bool.eq_iff_iff, decide_eq_true_eq, (digitM_hex c).2]
  by_cases h0 : b = []
  · subst h0; rfl
  · have h0' : ¬ b.length = 0 := fun q => h0 (List.length_eq_zero_iff.mp q)
    by_cases h1 : 8 < b.length
    · rw [if_pos (.inr h1), if_neg (by rintro ⟨_, h, _⟩; omega)]
    · rw [if_neg (by rintro (h | h) <;> omega), foldM_eq 16 (by decide), e]
      by_cases h2 : (b.all fun c => (hexValue c).isSome) = true
      · rw [if_pos h2, if_pos ⟨h0, by omega, h2⟩]
        rfl
      · rw [if_neg h2, if_neg (fun q => h2 q.2.2)]
def numOf : Tok → Option Int
  | .num n => some n
  | _ => none
theorem number_hex {b : Bytes} (h : b.take 2 = [48, 120]) : number b = valueM (b.drop 2) 16 8 := by
  match b, h with
  | a :: c :: t, h =>
    simp only [List.take_succ_cons, List.take_zero, List.cons.injEq, and_true] at h
    obtain ⟨rfl, rfl⟩ := h
    rw [valueM_hex]
    rfl
theorem number_dec {b : Bytes} (h : b.take 2 ≠ [48, 120]) : number b = valueM b 10 10 := by
  rw [valueM_dec]
  unfold number
  split
  · exact absurd rfl h
  · rfl
theorem numberM_tk (p : Bytes) (hp : p ≠ []) : numberM p = (tk p).bind numOf := by
  match p, hp with
  | c :: r, _ =>
    have hpos : ∀ q : c ≠ 45, numberM (c :: r) = (number (c :: r)).map fun n => (n : Int) := by
      intro q
      unfold numberM
      by_cases h2 : (c :: r).take 2 = [48, 120]
      · rw [if_pos h2, number_hex h2]
      · rw [if_neg h2, if_pos (by simp [q]), number_dec h2]
    have hno : alnum c = false → c ≠ 45 → numberM (c :: r) = none := by
      intro ha q
      rw [hpos q]
      cases hn : number (c :: r) with
      | none => rfl
      | some n =>
        have := number_alnum hn
        rw [List.all_cons, ha] at this
        cases this
    unfold tk
    dsimp only
    by_cases h44 : c = 44
    · rw [if_pos h44, hno (by subst h44; decide) (by subst h44; decide)]
      split <;> rfl
    rw [if_neg h44]
    by_cases h40 : c = 40
    · rw [if_pos h40, hno (by subst h40; decide) (by subst h40; decide)]
      split <;> rfl
    rw [if_neg h40]
    by_cases h41 : c = 41
    · rw [if_pos h41, hno (by subst h41; decide) (by subst h41; decide)]
      split <;> rfl
    rw [if_neg h41]
    by_cases h45 : c = 45
    · subst h45
      have e : numberM (45 :: r) = (valueM r 10 10).map fun n => -(n : Int) := by
        unfold numberM
        rw [if_neg (by simp), if_neg (by simp)]
        rfl
      rw [e]
      by_cases hr : r.all alnum = true
      · rw [if_pos hr, if_pos rfl]
        by_cases h2 : r.take 2 = [48, 120]
        · have : valueM r 10 10 = none := by
            rw [valueM_dec, if_neg]
            rintro ⟨_, _, q⟩
            match r, h2 with
            | a :: b :: t, h2 =>
              simp only [List.take_succ_cons, List.take_zero, List.cons.injEq, and_true] at h2
              obtain ⟨rfl, rfl⟩ := h2
              rw [List.all_cons, List.all_cons] at q
              revert q
              rw [show digit 120 = false by decide]
              simp
          rw [this]
          cases number r with
          | none => rfl
          | some n => rw [Option.bind_some, if_pos h2]; rfl
        · rw [number_dec h2]
          cases valueM r 10 10 with
          | none => rfl
          | some n => rw [Option.bind_some, if_neg h2]; rfl
      · rw [if_neg hr]
        have : valueM r 10 10 = none := by
          rw [valueM_dec, if_neg]
          rintro ⟨_, _, q⟩
          apply hr
          rw [List.all_eq_true] at q ⊢
          intro x hx
          simp [alnum, q x hx]
        rw [this]
        rfl
    rw [if_neg h45] 
    by_cases hr : r.all alnum = true
    · rw [if_pos hr]
      by_cases hl : letter c = true
      · rw [if_pos hl, hpos h45]
        have : number (c :: r) = none := by
          have hd : digit c = false := by
            simp only [letter, Bool.or_eq_true, Bool.and_eq_true, decide_eq_true_eq] at hl
            simp only [digit, Bool.and_eq_false_iff, decide_eq_false_iff_not]
            right
            intro q
            rcases hl with h | h
            · exact absurd (UInt8.le_trans h.1 q) (by decide)
            · exact absurd (UInt8.le_trans h.1 q) (by decide)
          have h48 : c ≠ 48 := by rintro rfl; revert hd; decide
          rw [number_dec (by
            intro q
            cases r with
            | nil => simp at q
            | cons b t => simp at q; exact h48 q.1), valueM_dec, if_neg]
          rintro ⟨_, _, q⟩
          rw [List.all_cons, hd] at q
          cases q
        rw [this]
        rfl
      · rw [if_neg hl]
        by_cases hd : digit c = true
        · rw [if_pos hd, hpos h45]
          cases number (c :: r) <;> rfl
        · rw [if_neg hd, hno (by simp [alnum, hl, hd]) h45]
          rfl
    · rw [if_neg hr, hpos h45]
      cases hn : number (c :: r) with
      | none => rfl
      | some n =>
        have := number_alnum hn
        rw [List.all_cons, Bool.and_eq_true] at this
        exact absurd this.2 hr
end En
end

section
set_option Elab.async false
set_option linter.all false
set_option maxHeartbeats 4000000
namespace En
open Sg06
/-! ### registers, marks, names -/
def regName (n : Nat) : Bytes := if n < 10 then [120, UInt8.ofNat (48 + n)] else [120, UInt8.ofNat (48 + n / 10), UInt8.ofNat (48 + n % 10)]
def placeM (p : Bytes) : Option Nat := (List.range 32).find? fun n => p == regName n
theorem digit_cases {c : UInt8} (h : digit c = true) : ∃ d, d < 10 ∧ c = UInt8.ofNat (48 + d) ∧ (hexValue c).getD 0 = d := by
  have h1 := h
  simp only [digit, Bool.and_eq_true, decide_eq_true_eq] at h1
  have h2 : 48 ≤ c.toNat := h1.1
  have h3 : c.toNat ≤ 57 := h1.2
  refine ⟨c.toNat - 48, by omega, ?_, ?_⟩
  · apply UInt8.toNat_inj.mp
    rw [UInt8.toNat_ofNat_of_lt' (by show _ < 256; omega)]
    omega
  · simp [hexValue, h]
theorem register_regName : ∀ n, n < 32 → tk (regName n) = some (.name (regName n)) ∧ register (.name (regName n)) = some n := by decide +kernel
theorem register_only {b : Bytes} {n : Nat} (h : register (.name b) = some n) : n < 32 ∧ b = regName n := by
  unfold register at h
  split at h
  · rename_i r he
    cases he
    split at h
    · rename_i hh
      cases h
      obtain ⟨h1, h2, h3, h4, h5⟩ := hh
      refine ⟨h5, ?_⟩
      match r, h1, h2 with
      | [x], _, _ =>
        simp only [List.all_cons, List.all_nil, Bool.and_true] at h3
        obtain ⟨d, hd, e, ev⟩ := digit_cases h3
        have : value 10 [x] = d := by simp [value, ev]
        rw [this, regName, if_pos hd, e]
      | [x, y], _, _ =>
        simp only [List.all_cons, List.all_nil, Bool.and_true, Bool.and_eq_true] at h3
        obtain ⟨d, hd, e, ev⟩ := digit_cases h3.1
        obtain ⟨d', hd', e', ev'⟩ := digit_cases h3.2
        have hv : value 10 [x, y] = 10 * d + d' := by simp [value, ev, ev']
        have h0 : d ≠ 0 := by
          intro q
          subst q
          have := h4 (by rw [e]; rfl)
          simp at this
        rw [hv, regName, if_neg (by omega), show (10 * d + d') / 10 = d by omega, show (10 * d + d') % 10 = d' by omega, e, e']
    · cases h
  · cases h
theorem tk_name {p b : Bytes} (h : tk p = some (.name b)) : b = p := by
  unfold tk at h
  split at h
  · cases h
  · rename_i c r
    split at h
    · split at h <;> cases h
    · split at h
      · split at h <;> cases h
      · split at h
        · split at h <;> cases h
        · split at h
          · split at h
            · cases hn : number r with
              | none => rw [hn] at h; cases h
              | some n =>
                rw [hn, Option.bind_some] at h
                split at h <;> cases h
            · split at h
              · cases h; rfl
              · split at h
                · cases hn : number (c :: r) with
                  | none => rw [hn] at h; cases h
                  | some n => rw [hn] at h; cases h
                · cases h
          · cases h
theorem regName_inj : ∀ m, m < 32 → ∀ n, n < 32 → regName m = regName n → m = n := by decide +kernel
theorem placeM_tk (p : Bytes) : placeM p = (tk p).bind register := by
  unfold placeM
  cases hf : (List.range 32).find? fun n => p == regName n with
  | some n =>
    have h1 := List.find?_some hf
    have h2 := List.mem_range.mp (List.mem_of_find?_eq_some hf)
    have e : p = regName n := by simpa using h1
    obtain ⟨h3, h4⟩ := register_regName n h2
    rw [e, h3, Option.bind_some, h4]
  | none =>
    cases ht : tk p with
    | none => rfl
    | some t =>
      rw [Option.bind_some]
      cases hr : register t with
      | none => rfl
      | some n =>
        exfalso
        cases t with
        | name b =>
          obtain ⟨h1, h2⟩ := register_only hr
          have e := tk_name ht
          rw [List.find?_eq_none] at hf
          exact hf n (List.mem_range.mpr h1) (by rw [← e, h2]; simp)
        | _ => simp [register] at hr
theorem mark_tk (p : Bytes) (c : UInt8) (t : Tok) (hc : (c = 44 ∧ t = .comma) ∨ (c = 40 ∧ t = .open_) ∨ (c = 41 ∧ t = .close)) : p = [c] ↔ tk p = some t := by
  constructor
  · rintro rfl
    rcases hc with ⟨rfl, rfl⟩ | ⟨rfl, rfl⟩ | ⟨rfl, rfl⟩ <;> rfl
  · intro h
    unfold tk at h
    split at h
    · cases h
    · rename_i x r
      split at h
      · split at h
        · rename_i h1 h2
          subst h1 h2
          cases h
          rcases hc with ⟨rfl, _⟩ | ⟨_, q⟩ | ⟨_, q⟩
          · rfl
          · cases q
          · cases q
        · cases h
      · split at h
        · split at h
          · rename_i h1 h2
            subst h1 h2
            cases h
            rcases hc with ⟨_, q⟩ | ⟨rfl, _⟩ | ⟨_, q⟩
            · cases q
            · rfl
            · cases q
          · cases h
        · split at h
          · split at h
            · rename_i h1 h2
              subst h1 h2
              cases h
              rcases hc with ⟨_, q⟩ | ⟨_, q⟩ | ⟨rfl, _⟩
              · cases q
              · cases q
              · rfl
            · cases h
          · exfalso
            split at h
            · split at h
              · cases hn : number r with
                | none => rw [hn] at h; cases h
                | some n =>
                  rw [hn, Option.bind_some] at h
                  split at h
                  · cases h
                  · cases h; rcases hc with ⟨_, q⟩ | ⟨_, q⟩ | ⟨_, q⟩ <;> cases q
              · split at h
                · cases h; rcases hc with ⟨_, q⟩ | ⟨_, q⟩ | ⟨_, q⟩ <;> cases q
                · split at h
                  · cases hn : number (x :: r) with
                    | none => rw [hn] at h; cases h
                    | some n => rw [hn] at h; cases h; rcases hc with ⟨_, q⟩ | ⟨_, q⟩ | ⟨_, q⟩ <;> cases q
                  · cases h
            · cases h
/-! ### operands by a shape -/
def readM (c : Nat) (p : Bytes) : Option Int := if c = 110 then numberM p else (placeM p).map fun n => (n : Int)
def runM : List Nat → List Bytes → Ops → Option Ops
  | c :: cs, p :: ps, o => if isOp c = true then (readM c p).bind fun v => runM cs ps (o.put c v) else if p = [UInt8.ofNat c] then runM cs ps o else none
  | _, _, o => some o
def opsM (kd : Kind) (ps : List Bytes) : Option Ops := if ps.length ≠ (shape kd).length then none else runM (shape kd) ps ⟨0, 0, 0, 0⟩
def readT (c : Nat) (t : Tok) : Option Int := if c = 110 then numOf t else (register t).map fun n => (n : Int)
def markT (c : Nat) : Tok → Bool
  | .comma => c == 44
  | .open_ => c == 40
  | .close => c == 41
  | _ => false
def runT : List Nat → List Tok → Ops → Option Ops
  | c :: cs, t :: ts, o => if isOp c = true then (readT c t).bind fun v => runT cs ts (o.put c v) else if markT c t = true then runT cs ts o else none
  | _, _, o => some o
theorem readM_tk (c : Nat) (p : Bytes) (hp : p ≠ []) : readM c p = (tk p).bind (readT c) := by
  unfold readM readT
  split
  · rw [numberM_tk p hp]
  · rw [placeM_tk]
    cases tk p with
    | none => rfl
    | some t => rfl
theorem tks_len : ∀ {ps : List Bytes} {l : List Tok}, tks ps = some l → l.length = ps.length
  | [], l, h => by cases h; rfl
  | p :: ps, l, h => by
    simp only [tks] at h
    cases ht : tk p with
    | none => rw [ht] at h; cases h
    | some t =>
      rw [ht, Option.bind_some] at h
      cases hs : tks ps with
      | none => rw [hs] at h; cases h
      | some l' =>
        rw [hs] at h
        cases h
        simp [tks_len hs]
theorem runM_tks : ∀ (cs : List Nat) (ps : List Bytes) (o : Ops), cs.length = ps.length → (∀ c ∈ cs, isOp c = true ∨ c = 44 ∨ c = 40 ∨ c = 41) → (∀ p ∈ ps, p ≠ []) → runM cs ps o = (tks ps).bind fun l => runT cs l o
  | [], [], o, _, _, _ => rfl
  | c :: cs, p :: ps, o, hl, hc, hp => by
    have ih := fun o => runM_tks cs ps o (by simpa using hl) (fun c h => hc c (List.mem_cons_of_mem _ h)) (fun p h => hp p (List.mem_cons_of_mem _ h))
    rw [runM, tks]
    by_cases ho : isOp c = true
    · rw [if_pos ho, readM_tk c p (hp p List.mem_cons_self)]
      cases ht : tk p with
      | none => rfl
      | some t =>
        rw [Option.bind_some, Option.bind_some]
        cases hr : readT c t with
        | none =>
          rw [Option.bind_none]
          cases tks ps with
          | none => rfl
          | some l => simp [runT, ho, hr]
        | some v =>
          rw [Option.bind_some, ih]
          cases tks ps with
          | none => rfl
          | some l => simp [runT, ho, hr]
    · rw [if_neg ho]
      have hc' := (hc c List.mem_cons_self).resolve_left ho
      have key : (p = [UInt8.ofNat c]) ↔ ∃ t, tk p = some t ∧ markT c t = true := by
        rcases hc' with rfl | rfl | rfl
        · rw [mark_tk p (UInt8.ofNat 44) .comma (.inl ⟨rfl, rfl⟩)]
          constructor
          · intro h; exact ⟨_, h, rfl⟩
          · rintro ⟨t, h, q⟩; cases t <;> simp [markT] at q; exact h
        · rw [mark_tk p (UInt8.ofNat 40) .open_ (.inr (.inl ⟨rfl, rfl⟩))]
          constructor
          · intro h; exact ⟨_, h, rfl⟩
          · rintro ⟨t, h, q⟩; cases t <;> simp [markT] at q; exact h
        · rw [mark_tk p (UInt8.ofNat 41) .close (.inr (.inr ⟨rfl, rfl⟩))]
          constructor
          · intro h; exact ⟨_, h, rfl⟩
          · rintro ⟨t, h, q⟩; cases t <;> simp [markT] at q; exact h
      cases ht : tk p with
      | none =>
        rw [if_neg (fun q => by obtain ⟨t, h, _⟩ := key.mp q; rw [ht] at h; cases h)]
        rfl
      | some t =>
        rw [Option.bind_some]
        by_cases hm : markT c t = true
        · rw [if_pos (key.mpr ⟨t, ht, hm⟩), ih]
          cases tks ps with
          | none => rfl
          | some l => simp [runT, ho, hm]
        · rw [if_neg (fun q => by obtain ⟨t', h, h2⟩ := key.mp q; rw [ht] at h; cases h; exact hm h2)]
          cases tks ps with
          | none => rfl
          | some l => simp [runT, ho, hm]
def opsOf (i : Ins) : Ops := ⟨i.d, i.a, i.b, i.n⟩
theorem runT_ops (k : Nat) (kd : Kind) (l : List Tok) (hl : l.length = (shape kd).length) : runT (shape kd) l ⟨0, 0, 0, 0⟩ = (operands k kd l).map opsOf := by
  cases kd
  case r =>
    match l, hl with
    | [t1, t2, t3, t4, t5], _ =>
      cases t2 <;> cases t4 <;> simp [runT, shape, isOp, readT, markT, operands, Ops.put] <;>
      (cases register t1 <;> cases register t3 <;> cases register t5 <;> simp [opsOf])
  case i =>
    match l, hl with
    | [t1, t2, t3, t4, t5], _ =>
      cases t2 <;> cases t4 <;> cases t5 <;> simp [runT, shape, isOp, readT, markT, operands, Ops.put, numOf] <;>
      (cases register t1 <;> cases register t3 <;> simp [opsOf])
  case h =>
    match l, hl with
    | [t1, t2, t3, t4, t5], _ =>
      cases t2 <;> cases t4 <;> cases t5 <;> simp [runT, shape, isOp, readT, markT, operands, Ops.put, numOf] <;>
      (cases register t1 <;> cases register t3 <;> simp [opsOf])
  case b =>
    match l, hl with
    | [t1, t2, t3, t4, t5], _ =>
      cases t2 <;> cases t4 <;> cases t5 <;> simp [runT, shape, isOp, readT, markT, operands, Ops.put, numOf] <;>
      (cases register t1 <;> cases register t3 <;> simp [opsOf])
  case m =>
    match l, hl with
    | [t1, t2, t3, t4, t5, t6], _ =>
      cases t2 <;> cases t3 <;> cases t4 <;> cases t6 <;> simp [runT, shape, isOp, readT, markT, operands, Ops.put, numOf] <;>
      (cases register t1 <;> cases register t5 <;> simp [opsOf])
  case s =>
    match l, hl with
    | [t1, t2, t3, t4, t5, t6], _ =>
      cases t2 <;> cases t3 <;> cases t4 <;> cases t6 <;> simp [runT, shape, isOp, readT, markT, operands, Ops.put, numOf] <;>
      (cases register t1 <;> cases register t5 <;> simp [opsOf])
  case u =>
    match l, hl with
    | [t1, t2, t3], _ =>
      cases t2 <;> cases t3 <;> simp [runT, shape, isOp, readT, markT, operands, Ops.put, numOf] <;>
      (cases register t1 <;> simp [opsOf])
  case j =>
    match l, hl with
    | [t1, t2, t3], _ =>
      cases t2 <;> cases t3 <;> simp [runT, shape, isOp, readT, markT, operands, Ops.put, numOf] <;>
      (cases register t1 <;> simp [opsOf])
theorem operands_len {k : Nat} {kd : Kind} {l : List Tok} (h : l.length ≠ (shape kd).length) : operands k kd l = none := by
  unfold operands
  split <;> first | rfl | (exact absurd rfl h)
theorem opsM_tks (k : Nat) (kd : Kind) (ps : List Bytes) (hp : ∀ p ∈ ps, p ≠ []) : opsM kd ps = ((tks ps).bind (operands k kd)).map opsOf := by
  unfold opsM
  have hs : ∀ c ∈ shape kd, isOp c = true ∨ c = 44 ∨ c = 40 ∨ c = 41 := by
    cases kd <;> decide
  by_cases hl : ps.length = (shape kd).length
  · rw [if_neg (by simp [hl]), runM_tks _ _ _ hl.symm hs hp]
    cases ht : tks ps with
    | none => rfl
    | some l =>
      rw [Option.bind_some, Option.bind_some, runT_ops k kd l (by rw [tks_len ht, hl])]
  · rw [if_pos hl]
    cases ht : tks ps with
    | none => rfl
    | some l => rw [Option.bind_some, operands_len (by rw [tks_len ht]; exact hl)]; rfl
/-! ### the row, the reach -/
def rowM (ps : List Bytes) : Option Nat := (List.range table.length).find? fun k => ps == [ascii (rowOf k).name]
def reachesM (kd : Kind) (n : Int) : Bool := decide (-(reachM kd).1 ≤ n) && (decide (n ≤ (reachM kd).2.1) && decide (n % (reachM kd).2.2 = 0))
theorem reaches_fits (kd : Kind) (n : Int) : reachesM kd n = kd.fits n := by
  rw [Bool.eq_iff_iff]
  unfold reachesM
  simp only [Bool.and_eq_true, decide_eq_true_eq]
  cases kd <;> dsimp only [reachM, Kind.fits] <;> simp only [Bool.and_eq_true, decide_eq_true_eq, beq_iff_eq] <;> omega
theorem reg_lt {t : Tok} {n : Nat} (h : register t = some n) : n < 32 := by
  cases t with
  | name b => exact (register_only h).1
  | _ => simp [register] at h
theorem ops_ok {k : Nat} {l : List Tok} {i : Ins} (hk : k < table.length) (h : operands k (rowOf k).kind l = some i) : i.row = k ∧ i.ok = (rowOf k).kind.fits i.n := by
  have main : ∀ kd : Kind, operands k kd l = some i → i.row = k ∧ (((if kd.hasD = true then decide (i.d < 32) else i.d == 0) && ((if kd.hasA = true then decide (i.a < 32) else i.a == 0) && ((if kd.hasB = true then decide (i.b < 32) else i.b == 0) && kd.fits i.n)))) = kd.fits i.n := by
    intro kd h
    unfold operands at h
    split at h
    all_goals first
      | cases h; done
      | (simp only [Option.bind_eq_some_iff, Option.map_eq_some_iff] at h
         obtain ⟨a1, h1, h⟩ := h
         try obtain ⟨a2, h2, h⟩ := h
         try obtain ⟨a3, h3, h⟩ := h
         subst_vars
         have g1 := reg_lt h1
         try have g2 := reg_lt h2
         try have g3 := reg_lt h3
         simp [Kind.hasD, Kind.hasA, Kind.hasB, *])
  obtain ⟨h1, h2⟩ := main _ h
  refine ⟨h1, ?_⟩
  unfold Ins.ok
  rw [h1]
  simp only [hk, decide_true, Bool.true_and]
  exact h2
theorem names_tk : ∀ k, k < table.length → tk (ascii (rowOf k).name) = some (.name (ascii (rowOf k).name)) := by decide +kernel
theorem names_inj : ∀ k, k < table.length → ∀ j, j < k → (ascii (rowOf k).name == ascii (rowOf j).name) = false := by decide +kernel
theorem parse_mirror (s : Bytes) : parse s = (rowM ((piecesM s).take 1)).bind fun k => ((tks ((piecesM s).drop 1)).bind (operands k (rowOf k).kind)).bind fun i => if (rowOf k).kind.fits i.n = true then some i else none := by
  rw [parse_eq]
  generalize hps : piecesM s = ps
  cases ps with
  | nil =>
    have : rowM ([] : List Bytes) = none := by decide +kernel
    rw [List.take_nil, this]
    rfl
  | cons p ps =>
    rw [show (p :: ps).take 1 = [p] from rfl, show (p :: ps).drop 1 = ps from rfl, tks]
    have hr : rowM [p] = (List.range table.length).find? fun k => ascii (rowOf k).name == p := by
      unfold rowM
      congr 1
      funext k
      rw [Bool.eq_iff_iff]
      simp only [beq_iff_eq, List.cons.injEq, and_true]
      exact eq_comm
    rw [hr]
    cases hf : (List.range table.length).find? fun k => ascii (rowOf k).name == p with
    | none =>
      rw [Option.bind_none]
      cases ht : tk p with
      | none => rfl
      | some t =>
        rw [Option.bind_some]
        cases tks ps with
        | none => rfl
        | some l =>
          show insOf (t :: l) = none
          cases t with
          | name b =>
            have e := tk_name ht
            subst e
            unfold insOf
            simp only
            rw [hf]
            rfl
          | _ => rfl
    | some k =>
      have hk := List.mem_range.mp (List.mem_of_find?_eq_some hf)
      have e : ascii (rowOf k).name = p := by simpa using List.find?_some hf
      have ht := names_tk k hk
      rw [e] at ht
      rw [ht, Option.bind_some, Option.bind_some]
      cases hts : tks ps with
      | none => rfl
      | some l =>
        rw [Option.bind_some]
        show insOf (.name p :: l) = _
        unfold insOf
        simp only
        rw [hf, Option.bind_some]
        cases ho : operands k (rowOf k).kind l with
        | none => rfl
        | some i =>
          rw [Option.bind_some, Option.bind_some, (ops_ok hk ho).2]
end En
end

section
set_option Elab.async false
set_option linter.all false
set_option maxHeartbeats 4000000
namespace En
open Sg06
/-! ### the word -/
def layN (n : Int) (w : Nat) (r : Nat × Nat × Nat) : Nat := w ||| run n r.1 r.2.1 * 2 ^ r.2.2
theorem layN_eq (n : Int) (w l m p : Nat) : layN n w (l, m, p) = w ||| run n l m * 2 ^ p := rfl
def laidN (kd : Kind) (n : Int) : Nat := (runs kd).foldl (layN n) 0
def wordN (r : Row) (d a b : Nat) (n : Int) : Nat :=
  ((r.op ||| r.f * 2 ^ 12 ||| r.g * 2 ^ 25) ||| (d * 2 ^ 7 ||| a * 2 ^ 15 ||| b * 2 ^ 20)) ||| laidN r.kind n
theorem o2 {a b i : Nat} (x : Nat) (h : a < 2 ^ i) (e : a + b * 2 ^ i = x) : a ||| b * 2 ^ i = x := by rw [or_add h]; exact e
theorem w_r {op f g d a b : Nat} (h1 : op < 128) (h2 : f < 8) (hd : d < 32) (ha : a < 32) (hb : b < 32) :
    ((((op ||| d * 2 ^ 7) ||| f * 2 ^ 12) ||| a * 2 ^ 15) ||| b * 2 ^ 20) ||| g * 2 ^ 25 = op + f * 2 ^ 12 + d * 2 ^ 7 + a * 2 ^ 15 + b * 2 ^ 20 + g * 2 ^ 25 := by
  rw [or_add (i := 7) (by omega), or_add (i := 12) (by omega), or_add (i := 15) (by omega), or_add (i := 20) (by omega), or_add (i := 25) (by omega)]
  omega
theorem w_i {op f d a n : Nat} (h1 : op < 128) (h2 : f < 8) (hd : d < 32) (ha : a < 32) :
    (((op ||| d * 2 ^ 7) ||| f * 2 ^ 12) ||| a * 2 ^ 15) ||| n * 2 ^ 20 = op + f * 2 ^ 12 + d * 2 ^ 7 + a * 2 ^ 15 + n * 2 ^ 20 := by
  rw [or_add (i := 7) (by omega), or_add (i := 12) (by omega), or_add (i := 15) (by omega), or_add (i := 20) (by omega)]
  omega
theorem w_b {op f t z a b y x : Nat} (h1 : op < 128) (h2 : f < 8) (ht : t < 2) (hz : z < 16) (ha : a < 32) (hb : b < 32) (hy : y < 64) :
    ((((((op ||| t * 2 ^ 7) ||| z * 2 ^ 8) ||| f * 2 ^ 12) ||| a * 2 ^ 15) ||| b * 2 ^ 20) ||| y * 2 ^ 25) ||| x * 2 ^ 31 = op + f * 2 ^ 12 + t * 2 ^ 7 + z * 2 ^ 8 + a * 2 ^ 15 + b * 2 ^ 20 + y * 2 ^ 25 + x * 2 ^ 31 := by
  rw [or_add (i := 7) (by omega), or_add (i := 8) (by omega), or_add (i := 12) (by omega), or_add (i := 15) (by omega), or_add (i := 20) (by omega), or_add (i := 25) (by omega), or_add (i := 31) (by omega)]
  omega
theorem w_u {op d n : Nat} (h1 : op < 128) (hd : d < 32) : (op ||| d * 2 ^ 7) ||| n * 2 ^ 12 = op + d * 2 ^ 7 + n * 2 ^ 12 := by
  rw [or_add (i := 7) (by omega), or_add (i := 12) (by omega)]
theorem w_j {op d t z y x : Nat} (h1 : op < 128) (hd : d < 32) (ht : t < 256) (hz : z < 2) (hy : y < 1024) :
    ((((op ||| d * 2 ^ 7) ||| t * 2 ^ 12) ||| z * 2 ^ 20) ||| y * 2 ^ 21) ||| x * 2 ^ 31 = op + d * 2 ^ 7 + t * 2 ^ 12 + z * 2 ^ 20 + y * 2 ^ 21 + x * 2 ^ 31 := by
  rw [or_add (i := 7) (by omega), or_add (i := 12) (by omega), or_add (i := 20) (by omega), or_add (i := 21) (by omega), or_add (i := 31) (by omega)]
theorem laid_r (n : Int) : laidN .r n = 0 := by
  show (runs .r).foldl (layN n) 0 = _
  unfold runs
  rw [List.foldl_nil]
theorem laid_i (n : Int) : laidN .i n = 0 ||| run n 0 4095 * 2 ^ 20 := by
  show (runs .i).foldl (layN n) 0 = _
  unfold runs
  rw [List.foldl_cons, List.foldl_nil, layN_eq]
theorem laid_m (n : Int) : laidN .m n = 0 ||| run n 0 4095 * 2 ^ 20 := by
  show (runs .m).foldl (layN n) 0 = _
  unfold runs
  rw [List.foldl_cons, List.foldl_nil, layN_eq]
theorem laid_h (n : Int) : laidN .h n = 0 ||| run n 0 31 * 2 ^ 20 := by
  show (runs .h).foldl (layN n) 0 = _
  unfold runs
  rw [List.foldl_cons, List.foldl_nil, layN_eq]
theorem laid_s (n : Int) : laidN .s n = 0 ||| run n 5 127 * 2 ^ 25 ||| run n 0 31 * 2 ^ 7 := by
  show (runs .s).foldl (layN n) 0 = _
  unfold runs
  rw [List.foldl_cons, List.foldl_cons, List.foldl_nil, layN_eq, layN_eq]
theorem laid_b (n : Int) : laidN .b n = 0 ||| run n 12 1 * 2 ^ 31 ||| run n 5 63 * 2 ^ 25 ||| run n 1 15 * 2 ^ 8 ||| run n 11 1 * 2 ^ 7 := by
  show (runs .b).foldl (layN n) 0 = _
  unfold runs
  rw [List.foldl_cons, List.foldl_cons, List.foldl_cons, List.foldl_cons, List.foldl_nil, layN_eq, layN_eq, layN_eq, layN_eq]
theorem laid_u (n : Int) : laidN .u n = 0 ||| run n 0 1048575 * 2 ^ 12 := by
  show (runs .u).foldl (layN n) 0 = _
  unfold runs
  rw [List.foldl_cons, List.foldl_nil, layN_eq]
theorem laid_j (n : Int) : laidN .j n = 0 ||| run n 20 1 * 2 ^ 31 ||| run n 1 1023 * 2 ^ 21 ||| run n 11 1 * 2 ^ 20 ||| run n 12 255 * 2 ^ 12 := by
  show (runs .j).foldl (layN n) 0 = _
  unfold runs
  rw [List.foldl_cons, List.foldl_cons, List.foldl_cons, List.foldl_cons, List.foldl_nil, layN_eq, layN_eq, layN_eq, layN_eq]
theorem ru12 (n : Int) : run n 0 4095 = twos 12 n := by unfold run twos; omega
theorem ruh {n : Int} (h : 0 ≤ n ∧ n ≤ 31) : run n 0 31 = n.toNat := by unfold run; omega
theorem ruu {n : Int} (h : 0 ≤ n ∧ n ≤ 1048575) : run n 0 1048575 = n.toNat := by unfold run; omega
theorem rus1 (n : Int) : run n 5 127 = bits (twos 12 n) 11 5 := by unfold run bits twos; omega
theorem rus2 (n : Int) : run n 0 31 = bits (twos 12 n) 4 0 := by unfold run bits twos; omega
theorem rub1 (n : Int) : run n 12 1 = bits (twos 13 n) 12 12 := by unfold run bits twos; omega
theorem rub2 (n : Int) : run n 5 63 = bits (twos 13 n) 10 5 := by unfold run bits twos; omega
theorem rub3 (n : Int) : run n 1 15 = bits (twos 13 n) 4 1 := by unfold run bits twos; omega
theorem rub4 (n : Int) : run n 11 1 = bits (twos 13 n) 11 11 := by unfold run bits twos; omega
theorem ruj1 (n : Int) : run n 20 1 = bits (twos 21 n) 20 20 := by unfold run bits twos; omega
theorem ruj2 (n : Int) : run n 1 1023 = bits (twos 21 n) 10 1 := by unfold run bits twos; omega
theorem ruj3 (n : Int) : run n 11 1 = bits (twos 21 n) 11 11 := by unfold run bits twos; omega
theorem ruj4 (n : Int) : run n 12 255 = bits (twos 21 n) 19 12 := by unfold run bits twos; omega
/-- the word by its kind -/
def wordK (op f g : Nat) (kd : Kind) (d a b : Nat) (n : Int) : Nat := match kd with
  | .r => op + f * 2 ^ 12 + d * 2 ^ 7 + a * 2 ^ 15 + b * 2 ^ 20 + g * 2 ^ 25
  | .i => op + f * 2 ^ 12 + d * 2 ^ 7 + a * 2 ^ 15 + twos 12 n * 2 ^ 20
  | .m => op + f * 2 ^ 12 + d * 2 ^ 7 + a * 2 ^ 15 + twos 12 n * 2 ^ 20
  | .h => op + f * 2 ^ 12 + d * 2 ^ 7 + a * 2 ^ 15 + n.toNat * 2 ^ 20 + g * 2 ^ 25
  | .s => op + f * 2 ^ 12 + bits (twos 12 n) 4 0 * 2 ^ 7 + a * 2 ^ 15 + b * 2 ^ 20 + bits (twos 12 n) 11 5 * 2 ^ 25
  | .b => op + f * 2 ^ 12 + bits (twos 13 n) 11 11 * 2 ^ 7 + bits (twos 13 n) 4 1 * 2 ^ 8 + a * 2 ^ 15 + b * 2 ^ 20 + bits (twos 13 n) 10 5 * 2 ^ 25 + bits (twos 13 n) 12 12 * 2 ^ 31
  | .u => op + d * 2 ^ 7 + n.toNat * 2 ^ 12
  | .j => op + d * 2 ^ 7 + bits (twos 21 n) 19 12 * 2 ^ 12 + bits (twos 21 n) 11 11 * 2 ^ 20 + bits (twos 21 n) 10 1 * 2 ^ 21 + bits (twos 21 n) 20 20 * 2 ^ 31
theorem word_K (k d a b : Nat) (n : Int) : word ⟨k, d, a, b, n⟩ = wordK (rowOf k).op (rowOf k).f (rowOf k).g (rowOf k).kind d a b n := by
  unfold word wordK
  dsimp only
  cases (rowOf k).kind <;> rfl
theorem z0 (x : Nat) : 0 * x = 0 := Nat.zero_mul x
theorem word_or {op f g : Nat} {kd : Kind} {d a b : Nat} {n : Int} (h1 : op < 128) (h2 : f < 8) (h4 : kd ≠ .r → kd ≠ .h → g = 0) (h5 : kd = .u ∨ kd = .j → f = 0)
    (hd : d < 32) (ha : a < 32) (hb : b < 32) (zd : kd.hasD = false → d = 0) (za : kd.hasA = false → a = 0) (zb : kd.hasB = false → b = 0) (hn : kd.fits n = true) :
    ((op ||| f * 2 ^ 12 ||| g * 2 ^ 25) ||| (d * 2 ^ 7 ||| a * 2 ^ 15 ||| b * 2 ^ 20)) ||| laidN kd n = wordK op f g kd d a b n := by
  cases kd
  case r =>
    rw [laid_r, Nat.or_zero]
    refine Eq.trans ?_ (w_r h1 h2 hd ha hb)
    ac_rfl
  case h =>
    have e0 := zb rfl
    subst e0
    rw [laid_h, ruh (by simpa [Kind.fits] using hn), Nat.zero_or, z0, Nat.or_zero]
    have hn' : n.toNat < 32 := by
      have : 0 ≤ n ∧ n ≤ 31 := by simpa [Kind.fits] using hn
      omega
    refine Eq.trans ?_ (w_r h1 h2 hd ha hn')
    ac_rfl
  case i =>
    have e0 := zb rfl
    have e1 := h4 (by decide) (by decide)
    subst e0 e1
    rw [laid_i, ru12, Nat.zero_or]
    simp only [z0, Nat.or_zero]
    refine Eq.trans ?_ (w_i h1 h2 hd ha)
    ac_rfl
  case m =>
    have e0 := zb rfl
    have e1 := h4 (by decide) (by decide)
    subst e0 e1
    rw [laid_m, ru12, Nat.zero_or]
    simp only [z0, Nat.or_zero]
    refine Eq.trans ?_ (w_i h1 h2 hd ha)
    ac_rfl
  case s =>
    have e0 := zd rfl
    have e1 := h4 (by decide) (by decide)
    subst e0 e1
    rw [laid_s, rus1, rus2, Nat.zero_or]
    simp only [z0, Nat.or_zero, Nat.zero_or]
    refine Eq.trans ?_ (w_r h1 h2 (bits_lt (twos 12 n) 4 0 32 rfl) ha hb)
    ac_rfl
  case b =>
    have e0 := zd rfl
    have e1 := h4 (by decide) (by decide)
    subst e0 e1
    rw [laid_b, rub1, rub2, rub3, rub4, Nat.zero_or]
    simp only [z0, Nat.or_zero, Nat.zero_or]
    refine Eq.trans ?_ (w_b h1 h2 (bits_lt (twos 13 n) 11 11 2 rfl) (bits_lt (twos 13 n) 4 1 16 rfl) ha hb (bits_lt (twos 13 n) 10 5 64 rfl))
    ac_rfl
  case u =>
    have e0 := zb rfl
    have e1 := h4 (by decide) (by decide)
    have e2 := za rfl
    have e3 := h5 (.inl rfl)
    subst e0 e1 e2 e3
    rw [laid_u, ruu (by simpa [Kind.fits] using hn), Nat.zero_or]
    simp only [z0, Nat.or_zero, Nat.zero_or]
    exact w_u h1 hd
  case j =>
    have e0 := zb rfl
    have e1 := h4 (by decide) (by decide)
    have e2 := za rfl
    have e3 := h5 (.inr rfl)
    subst e0 e1 e2 e3
    rw [laid_j, ruj1, ruj2, ruj3, ruj4, Nat.zero_or]
    simp only [z0, Nat.or_zero, Nat.zero_or]
    refine Eq.trans ?_ (w_j h1 hd (bits_lt (twos 21 n) 19 12 256 rfl) (bits_lt (twos 21 n) 11 11 2 rfl) (bits_lt (twos 21 n) 10 1 1024 rfl))
    ac_rfl
theorem word_eq (r : Row) (d a b : Nat) (n : Int) (h1 : r.op < 128) (h2 : r.f < 8) (h3 : r.g < 128) (h4 : r.kind ≠ .r → r.kind ≠ .h → r.g = 0) (h5 : r.kind = .u ∨ r.kind = .j → r.f = 0)
    (hd : d < 32) (ha : a < 32) (hb : b < 32) (zd : r.kind.hasD = false → d = 0) (za : r.kind.hasA = false → a = 0) (zb : r.kind.hasB = false → b = 0) (hn : r.kind.fits n = true)
    (k : Nat) (hk : rowOf k = r) : wordN r d a b n = word ⟨k, d, a, b, n⟩ := by
  rw [word_K, hk]
  exact word_or h1 h2 h4 h5 hd ha hb zd za zb hn
/-! ### the whole mirror -/
def encodeM (s : Bytes) : List Int :=
  if 255 < s.length then [-1]
  else match rowM ((piecesM s).take 1) with
    | none => [-1]
    | some k => match opsM (rowOf k).kind ((piecesM s).drop 1) with
      | none => [-1]
      | some o => if reachesM (rowOf k).kind o.n = true then [0, (wordN (rowOf k) o.d.toNat o.a.toNat o.b.toNat o.n : Nat)] else [-1]
theorem ops_regs {k : Nat} {kd : Kind} {l : List Tok} {i : Ins} (h : operands k kd l = some i) : i.row = k ∧ i.d < 32 ∧ i.a < 32 ∧ i.b < 32 ∧ (kd.hasD = false → i.d = 0) ∧ (kd.hasA = false → i.a = 0) ∧ (kd.hasB = false → i.b = 0) := by
  unfold operands at h
  split at h
  all_goals first
    | cases h; done
    | (simp only [Option.bind_eq_some_iff, Option.map_eq_some_iff] at h
       obtain ⟨a1, h1, h⟩ := h
       try obtain ⟨a2, h2, h⟩ := h
       try obtain ⟨a3, h3, h⟩ := h
       subst_vars
       have g1 := reg_lt h1
       try have g2 := reg_lt h2
       try have g3 := reg_lt h3
       simp [Kind.hasD, Kind.hasA, Kind.hasB, *])
theorem rowM_lt {ps : List Bytes} {k : Nat} (h : rowM ps = some k) : k < table.length := List.mem_range.mp (List.mem_of_find?_eq_some h)
theorem encodeM_parse (s : Bytes) : encodeM s = if 255 < s.length then [-1] else match parse s with
    | none => [-1]
    | some i => [0, ((word i : Nat) : Int)] := by
  unfold encodeM
  split
  · rfl
  · rw [parse_mirror]
    cases hr : rowM ((piecesM s).take 1) with
    | none => rfl
    | some k =>
      have hk := rowM_lt hr
      dsimp only
      rw [Option.bind_some, opsM_tks k _ _ (fun p h => piecesM_ne s p (List.mem_of_mem_drop h))]
      cases ho : (tks ((piecesM s).drop 1)).bind (operands k (rowOf k).kind) with
      | none => rfl
      | some i =>
        dsimp only [Option.map_some]
        rw [Option.bind_some, reaches_fits]
        show (if (rowOf k).kind.fits i.n = true then _ else _) = _
        by_cases hf : (rowOf k).kind.fits i.n = true
        · rw [if_pos hf, if_pos hf]
          dsimp only
          obtain ⟨l, hl, hop⟩ := Option.bind_eq_some_iff.mp ho
          obtain ⟨q0, q1, q2, q3, z1, z2, z3⟩ := ops_regs hop
          obtain ⟨r1, r2, r3, r4, r5⟩ := rows_small k hk
          have e := word_eq (rowOf k) i.d i.a i.b i.n r1 r2 r3 r4 r5 q1 q2 q3 z1 z2 z3 hf k rfl
          have ei : (⟨k, i.d, i.a, i.b, i.n⟩ : Ins) = i := by rw [← q0]
          rw [ei] at e
          rw [← e]
          rfl
        · rw [if_neg hf, if_neg hf]
theorem encode_eq (ns : List Int) (s : Bytes) (hs : Sg06Neutral.bytesOf ns = s) : PySg06.encode ns = encodeM s := by
  rw [encodeM_parse]
  have hl : s.length = ns.length := by rw [← hs, Sg06Neutral.bytesOf, List.length_map]
  show (if (Sg06.spec (.encode (Sg06Neutral.bytesOf ns) ns.length)).code < 0 then [(Sg06.spec (.encode (Sg06Neutral.bytesOf ns) ns.length)).code] else [(Sg06.spec (.encode (Sg06Neutral.bytesOf ns) ns.length)).code, ((Sg06.spec (.encode (Sg06Neutral.bytesOf ns) ns.length)).word : Int)]) = _
  rw [hs]
  by_cases h : 255 < s.length
  · have e : Sg06.spec (.encode s ns.length) = says (-1) := by
      show (if (ns.length : Int) < 0 ∨ 255 < (ns.length : Int) then says (-1) else _) = _
      rw [if_pos (by omega)]
    rw [e, if_pos h]
    rfl
  · rw [if_neg h]
    cases hp : parse s with
    | none =>
      have e : Sg06.spec (.encode s ns.length) = says (-1) := by
        show (if (ns.length : Int) < 0 ∨ 255 < (ns.length : Int) then says (-1) else _) = _
        rw [if_neg (by omega), hp]
      rw [e]
      rfl
    | some i =>
      have e : Sg06.spec (.encode s ns.length) = { says 0 with word := word i } := by
        show (if (ns.length : Int) < 0 ∨ 255 < (ns.length : Int) then says (-1) else _) = _
        rw [if_neg (by omega), hp]
      rw [e]
      rfl
end En
end

section
set_option Elab.async false
set_option linter.all false
set_option maxHeartbeats 4000000
namespace De
open Sg06
open En (Ops shape runs run reachM or_add)
/-! ### a word's row and operands, as the program finds them -/
def fixedM : Kind → Nat
  | .r => 4261441663
  | .i => 28799
  | .m => 28799
  | .h => 4261441663
  | .s => 28799
  | .b => 28799
  | .u => 127
  | .j => 127
def fixN (r : Row) : Nat := r.op ||| r.f * 2 ^ 12 ||| r.g * 2 ^ 25
def rowOfM (w : Nat) : Option Nat := (List.range table.length).find? fun k => (w &&& fixedM (rowOf k).kind) == fixN (rowOf k)
theorem and_shift (w m k : Nat) : w &&& (m * 2 ^ k) = ((w / 2 ^ k) &&& m) * 2 ^ k := by
  apply Nat.eq_of_testBit_eq
  intro i
  rw [Nat.testBit_and, Nat.testBit_mul_two_pow, Nat.testBit_mul_two_pow, Nat.testBit_and, Nat.testBit_div_two_pow]
  by_cases h : k ≤ i
  · rw [Nat.sub_add_cancel h]
    simp [h]
  · simp [h]
theorem and_7 (w : Nat) : w &&& 127 = w % 128 := Nat.and_two_pow_sub_one_eq_mod w 7
theorem and_3 (w : Nat) : w &&& 7 = w % 8 := Nat.and_two_pow_sub_one_eq_mod w 3
theorem and_f (w : Nat) : w &&& 28799 = w % 128 + w / 2 ^ 12 % 8 * 2 ^ 12 := by
  rw [show 28799 = 127 ||| 7 * 2 ^ 12 by decide +kernel, Nat.and_or_distrib_left, and_shift, and_7, and_3]
  exact or_add (by omega)
theorem and_g (w : Nat) : w &&& 4261441663 = w % 128 + w / 2 ^ 12 % 8 * 2 ^ 12 + w / 2 ^ 25 % 128 * 2 ^ 25 := by
  rw [show 4261441663 = 28799 ||| 127 * 2 ^ 25 by decide +kernel, Nat.and_or_distrib_left, and_shift, and_7, and_f]
  exact or_add (by omega)
theorem fix_eq {r : Row} (h1 : r.op < 128) (h2 : r.f < 8) (h3 : r.g < 128) : fixN r = r.op + r.f * 2 ^ 12 + r.g * 2 ^ 25 := by
  unfold fixN
  rw [or_add (i := 12) (by omega), or_add (i := 25) (by omega)]
theorem test_eq (w : Nat) (r : Row) (h1 : r.op < 128) (h2 : r.f < 8) (h3 : r.g < 128) (h4 : r.kind ≠ .r → r.kind ≠ .h → r.g = 0) (h5 : r.kind = .u ∨ r.kind = .j → r.f = 0) :
    ((w &&& fixedM r.kind) == fixN r) = (bits w 6 0 == r.op && ((r.kind == .u || r.kind == .j || bits w 14 12 == r.f) && ((r.kind != .r && r.kind != .h) || bits w 31 25 == r.g))) := by
  rw [fix_eq h1 h2 h3, Bool.eq_iff_iff]
  obtain ⟨nm, kd, op, f, g⟩ := r
  dsimp only at h1 h2 h3 h4 h5 ⊢
  unfold bits
  cases kd <;> simp only [fixedM, and_7, and_f, and_g, Bool.and_eq_true, Bool.or_eq_true, beq_iff_eq, bne_iff_ne, ne_eq, reduceCtorEq, not_true_eq_false, not_false_eq_true, false_or, true_or, or_true, or_false, false_and, and_false, and_true, true_and, forall_const, false_implies, implies_true, Nat.reduceSub, Nat.reduceAdd] at h4 h5 ⊢
  all_goals omega
theorem find_congr {α : Type} {p q : α → Bool} : ∀ {l : List α}, (∀ x ∈ l, p x = q x) → l.find? p = l.find? q
  | [], _ => rfl
  | a :: l, h => by
    rw [List.find?_cons, List.find?_cons, h a (List.mem_cons_self ..), find_congr fun x hx => h x (List.mem_cons_of_mem _ hx)]
theorem ins_eq (w : Nat) : ins w = (rowOfM w).map (fields w) := by
  unfold ins rowOfM
  rw [find_congr fun k hk => ?_]
  obtain ⟨h1, h2, h3, h4, h5⟩ := En.rows_small k (List.mem_range.mp hk)
  exact (test_eq w (rowOf k) h1 h2 h3 h4 h5).symm
theorem rowOfM_lt {w k : Nat} (h : rowOfM w = some k) : k < 45 := List.mem_range.mp (List.mem_of_find?_eq_some h)
/-! ### n -/
def takeR (w : Nat) (n : Nat) (r : Nat × Nat × Nat) : Nat := n ||| run (w : Int) r.2.2 r.2.1 * 2 ^ r.1
theorem takeR_eq (w n l m p : Nat) : takeR w n (l, m, p) = n ||| run (w : Int) p m * 2 ^ l := rfl
def gatherN (kd : Kind) (w : Nat) : Nat := (runs kd).foldl (takeR w) 0
def gatherM (kd : Kind) (w : Nat) : Int := if (reachM kd).2.1 < (gatherN kd w : Int) then (gatherN kd w : Int) - 2 * (reachM kd).1 else (gatherN kd w : Int)
theorem run_nat (w p m : Nat) : run (w : Int) p m = w / 2 ^ p % (m + 1) := by
  unfold run
  rw [show (2 : Int) ^ p = ((2 ^ p : Nat) : Int) by rw [Int.natCast_pow]; rfl, ← Int.natCast_ediv, ← Int.natCast_emod, Int.toNat_natCast]
theorem g_r (w : Nat) : gatherN .r w = 0 := rfl
theorem g_i (w : Nat) : gatherN .i w = bits w 31 20 := by
  unfold gatherN
  unfold runs
  rw [List.foldl_cons, List.foldl_nil, takeR_eq]
  rw [run_nat, Nat.zero_or]; unfold bits; omega
theorem g_m (w : Nat) : gatherN .m w = bits w 31 20 := g_i w
theorem g_h (w : Nat) : gatherN .h w = bits w 24 20 := by
  unfold gatherN
  unfold runs
  rw [List.foldl_cons, List.foldl_nil, takeR_eq]
  rw [run_nat, Nat.zero_or]; unfold bits; omega
theorem g_u (w : Nat) : gatherN .u w = bits w 31 12 := by
  unfold gatherN
  unfold runs
  rw [List.foldl_cons, List.foldl_nil, takeR_eq]
  rw [run_nat, Nat.zero_or]; unfold bits; omega
theorem g_s (w : Nat) : gatherN .s w = bits w 31 25 * 32 + bits w 11 7 := by
  unfold gatherN
  unfold runs
  rw [List.foldl_cons, List.foldl_cons, List.foldl_nil, takeR_eq, takeR_eq]
  rw [run_nat, run_nat, Nat.zero_or, Nat.pow_zero, Nat.mul_one, Nat.or_comm, or_add (by omega)]
  unfold bits; omega
theorem or_b (a b c d : Nat) : a ||| b ||| c ||| d = ((c ||| b) ||| d) ||| a := by ac_rfl
theorem or_j (a b c d : Nat) : a ||| b ||| c ||| d = ((b ||| c) ||| d) ||| a := by ac_rfl
theorem g_b (w : Nat) : gatherN .b w = bits w 31 31 * 4096 + bits w 7 7 * 2048 + bits w 30 25 * 32 + bits w 11 8 * 2 := by
  unfold gatherN
  unfold runs
  rw [List.foldl_cons, List.foldl_cons, List.foldl_cons, List.foldl_cons, List.foldl_nil, takeR_eq, takeR_eq, takeR_eq, takeR_eq]
  rw [run_nat, run_nat, run_nat, run_nat, Nat.zero_or]
  rw [or_b]
  rw [or_add (i := 5) (by omega), or_add (i := 11) (by omega), or_add (i := 12) (by omega)]
  unfold bits; omega
theorem orj {x y z t : Nat} (h1 : t < 1024) (h2 : z < 2) (h3 : y < 256) : x * 2 ^ 20 ||| t * 2 ^ 1 ||| z * 2 ^ 11 ||| y * 2 ^ 12 = x * 1048576 + y * 4096 + z * 2048 + t * 2 := by
  rw [or_j, or_add (i := 11) (by omega), or_add (i := 12) (by omega), or_add (i := 20) (by omega)]
  simp only [Nat.reducePow]
  omega
theorem rb (w p m hi : Nat) (h : 2 ^ (hi - p + 1) = m + 1) : run (w : Int) p m = bits w hi p := by
  rw [run_nat]
  unfold bits
  rw [h]
theorem g_j (w : Nat) : gatherN .j w = bits w 31 31 * 1048576 + bits w 19 12 * 4096 + bits w 20 20 * 2048 + bits w 30 21 * 2 := by
  unfold gatherN
  unfold runs
  rw [List.foldl_cons, List.foldl_cons, List.foldl_cons, List.foldl_cons, List.foldl_nil, takeR_eq, takeR_eq, takeR_eq, takeR_eq]
  rw [rb w 31 1 31 rfl, rb w 21 1023 30 rfl, rb w 20 1 20 rfl, rb w 12 255 19 rfl, Nat.zero_or]
  exact orj (En.bits_lt w 30 21 1024 rfl) (En.bits_lt w 20 20 2 rfl) (En.bits_lt w 19 12 256 rfl)
/-! ### the operands -/
def regM (kd : Kind) (c p w : Nat) : Nat := if c ∈ shape kd then w / 2 ^ p % 32 else 0
def opsInM (kd : Kind) (w : Nat) : Ops := ⟨regM kd 100 7 w, regM kd 97 15 w, regM kd 98 20 w, gatherM kd w⟩
def opsOf (i : Ins) : Ops := ⟨i.d, i.a, i.b, i.n⟩
theorem fields_row (w k : Nat) : (fields w k).row = k := by
  unfold fields
  dsimp only
  cases (rowOf k).kind <;> rfl
theorem mk4 {d a b n d' a' b' n' : Int} (h1 : d = d') (h2 : a = a') (h3 : b = b') (h4 : n = n') : Ops.mk d a b n = Ops.mk d' a' b' n' := by rw [h1, h2, h3, h4]
theorem b_d (w : Nat) : bits w 11 7 = w / 2 ^ 7 % 32 := rfl
theorem b_a (w : Nat) : bits w 19 15 = w / 2 ^ 15 % 32 := rfl
theorem b_b (w : Nat) : bits w 24 20 = w / 2 ^ 20 % 32 := rfl
theorem reg_in {kd : Kind} {c p w : Nat} (h : c ∈ shape kd) : regM kd c p w = w / 2 ^ p % 32 := if_pos h
theorem reg_out {kd : Kind} {c p w : Nat} (h : c ∉ shape kd) : ((0 : Nat) : Int) = (regM kd c p w : Nat) := by
  have e : regM kd c p w = 0 := if_neg h
  rw [e]
theorem reg_d {kd : Kind} (w : Nat) (h : 100 ∈ shape kd) : ((bits w 11 7 : Nat) : Int) = (regM kd 100 7 w : Nat) := by rw [reg_in h]; rfl
theorem reg_a {kd : Kind} (w : Nat) (h : 97 ∈ shape kd) : ((bits w 19 15 : Nat) : Int) = (regM kd 97 15 w : Nat) := by rw [reg_in h]; rfl
theorem reg_b {kd : Kind} (w : Nat) (h : 98 ∈ shape kd) : ((bits w 24 20 : Nat) : Int) = (regM kd 98 20 w : Nat) := by rw [reg_in h]; rfl
theorem s12 {n x : Nat} (h : x = n) (h2 : n < 4096) : signed 12 n = if (2047 : Int) < (x : Int) then (x : Int) - 2 * 2048 else (x : Int) := by
  subst h
  unfold signed
  rw [show (2 : Nat) ^ (12 - 1) = 2048 from rfl, show (2 : Int) ^ 12 = 4096 from rfl]
  split <;> split <;> omega
theorem s13 {n x : Nat} (h : x = n) (h2 : n < 8192) (h3 : n % 2 = 0) : signed 13 n = if (4094 : Int) < (x : Int) then (x : Int) - 2 * 4096 else (x : Int) := by
  subst h
  unfold signed
  rw [show (2 : Nat) ^ (13 - 1) = 4096 from rfl, show (2 : Int) ^ 13 = 8192 from rfl]
  split <;> split <;> omega
theorem s21 {n x : Nat} (h : x = n) (h2 : n < 2097152) (h3 : n % 2 = 0) : signed 21 n = if (1048574 : Int) < (x : Int) then (x : Int) - 2 * 1048576 else (x : Int) := by
  subst h
  unfold signed
  rw [show (2 : Nat) ^ (21 - 1) = 1048576 from rfl, show (2 : Int) ^ 21 = 2097152 from rfl]
  split <;> split <;> omega
theorem sp {n x : Nat} {t : Int} (h : x = n) (h2 : (n : Int) ≤ t) (y : Int) : (n : Int) = if t < (x : Int) then y else (x : Int) := by
  subst h
  rw [if_neg (by omega)]
theorem fields_K (w k : Nat) : opsOf (fields w k) = opsInM (rowOf k).kind w := by
  have l20 := En.bits_lt w 31 20 4096 rfl
  have l25 := En.bits_lt w 31 25 128 rfl
  have l7 := En.bits_lt w 11 7 32 rfl
  have lb := En.bits_lt w 24 20 32 rfl
  have l12 := En.bits_lt w 31 12 1048576 rfl
  have b1 := En.bits_lt w 31 31 2 rfl
  have b2 := En.bits_lt w 7 7 2 rfl
  have b3 := En.bits_lt w 30 25 64 rfl
  have b4 := En.bits_lt w 11 8 16 rfl
  have j1 := En.bits_lt w 19 12 256 rfl
  have j2 := En.bits_lt w 20 20 2 rfl
  have j3 := En.bits_lt w 30 21 1024 rfl
  unfold fields opsOf opsInM
  dsimp only
  cases (rowOf k).kind
  case r => exact mk4 (reg_d w (by decide)) (reg_a w (by decide)) (reg_b w (by decide)) (sp (n := 0) (x := gatherN .r w) (g_r w) (by decide) _)
  case i => exact mk4 (reg_d w (by decide)) (reg_a w (by decide)) (reg_out (by decide)) (s12 (g_i w) l20)
  case m => exact mk4 (reg_d w (by decide)) (reg_a w (by decide)) (reg_out (by decide)) (s12 (g_m w) l20)
  case h => exact mk4 (reg_d w (by decide)) (reg_a w (by decide)) (reg_out (by decide)) (sp (g_h w) (t := 31) (by omega) _)
  case s => exact mk4 (reg_out (by decide)) (reg_a w (by decide)) (reg_b w (by decide)) (s12 (g_s w) (by omega))
  case b => exact mk4 (reg_out (by decide)) (reg_a w (by decide)) (reg_b w (by decide)) (s13 (g_b w) (by omega) (by omega))
  case u => exact mk4 (reg_d w (by decide)) (reg_out (by decide)) (reg_out (by decide)) (sp (g_u w) (t := 1048575) (by omega) _)
  case j => exact mk4 (reg_d w (by decide)) (reg_out (by decide)) (reg_out (by decide)) (s21 (g_j w) (by omega) (by omega))
theorem reg_lt (kd : Kind) (c p w : Nat) : regM kd c p w < 32 := by
  unfold regM
  split <;> omega
def fieldsM (w : Nat) : List Int := match rowOfM w with
  | none => [-1]
  | some k => [(k : Int), (opsInM (rowOf k).kind w).d, (opsInM (rowOf k).kind w).a, (opsInM (rowOf k).kind w).b, (opsInM (rowOf k).kind w).n]
theorem fields_eq (w : Nat) : PySg06.fields (w : Int) = fieldsM w := by
  have h : Sg06.spec (.fields w) = (match (rowOfM w).map (fields w) with
    | none => says (-1)
    | some i => { says i.row with fields := [(i.d : Int), (i.a : Int), (i.b : Int), i.n] }) := by
    rw [← ins_eq]
    rfl
  show (fun a : Ans => if a.code < 0 then [a.code] else a.code :: a.fields) (Sg06.spec (.fields w)) = _
  rw [h]
  unfold fieldsM
  cases rowOfM w with
  | none => rfl
  | some k =>
    rw [Option.map_some]
    have e := fields_K w k
    have e2 := fields_row w k
    show (if (((fields w k).row : Nat) : Int) < 0 then _ else _) = [(k : Int), (opsInM (rowOf k).kind w).d, (opsInM (rowOf k).kind w).a, (opsInM (rowOf k).kind w).b, (opsInM (rowOf k).kind w).n]
    rw [← e, if_neg (by omega)]
    show (((fields w k).row : Nat) : Int) :: _ = _
    rw [e2]
    rfl
end De
end

section
set_option linter.all false
namespace Pr
open PySem PySem.Spec PyProof.Rows
/-! ### the text by places -/
def top (i : Nat) : Stmt := PySem.Challenge.pw_oneinstruction_s01_encode.main.body.getD i (.Pass ⟨0, 0, 0, 0⟩)
abbrev sEncode : Stmt := top 19
abbrev sPieces : Stmt := top 20
abbrev sRow : Stmt := top 21
abbrev sOps : Stmt := top 22
abbrev sPlace : Stmt := top 23
abbrev sNumber : Stmt := top 24
abbrev sValue : Stmt := top 25
abbrev sDigit : Stmt := top 26
abbrev sSpelled : Stmt := top 27
abbrev sReaches : Stmt := top 28
abbrev sWord : Stmt := top 29
abbrev sFixed : Stmt := top 30
abbrev sLaid : Stmt := top 31
end Pr
end

section
set_option Elab.async false
set_option linter.all false
set_option maxRecDepth 100000
set_option maxHeartbeats 400000
namespace Pr
open PySem PySem.Spec PyProof.Rows L2
open Sg06 (rowOf ascii)
open En (Ops isOp shape runs run reachM)
open De (fixedM fixN rowOfM takeR gatherN gatherM regM opsInM fieldsM)
theorem take_snoc {α : Type} : ∀ {l : List α} {i : Nat} {x : α}, l[i]? = some x → l.take (i + 1) = l.take i ++ [x]
  | [], i, x, h => by simp at h
  | a :: l, 0, x, h => by
    have e : a = x := Option.some.inj h
    subst e
    rfl
  | a :: l, i + 1, x, h => by
    have ih := take_snoc (l := l) (i := i) (x := x) h
    show a :: l.take (i + 1) = a :: l.take i ++ [x]
    rw [ih]
    rfl
/-- bytes as ints -/
def ib (bs : List UInt8) : List V := bs.map fun b => V.int (b.toNat : Int)
/-- a def that may be called -/
structure Ca (P : Program) (w : World) (K : PySem.W.Frag) (mg : Str → Option Value) (base : Heap) (x : Str) (ps : List Str) (k : Nat) (sp : Sp) (f : Addr) (fd : FuncData) : Prop where
  ok : FnOk P w K mg base CX0 k f fd ps sp
  at_ : mg x = some (.ref f)
  kp : PySem.W.keepIn K (.ref f) = true
  b : Binds K fd ps []
theorem drop_at {α : Type} {l : List α} {i : Nat} {x : α} (h : l[i]? = some x) : l.drop i = x :: l.drop (i + 1) := by
  obtain ⟨h1, h2⟩ := List.getElem?_eq_some_iff.mp h
  rw [List.drop_eq_getElem_cons h1, h2]
def kl : Sg06.Kind → Str
  | .r => Str.ofString "R"
  | .i => Str.ofString "I"
  | .m => Str.ofString "M"
  | .h => Str.ofString "H"
  | .s => Str.ofString "S"
  | .b => Str.ofString "B"
  | .u => Str.ofString "U"
  | .j => Str.ofString "J"
def rowV (r : Sg06.Row) : List V := [.str (Str.ofString r.name), .str (kl r.kind), .int (r.op : Nat), .int (r.f : Nat), .int (r.g : Nat)]
/-- the table of the module -/
structure Rows (K : PySem.W.Frag) (a : Addr) : Prop where
  all : tupV K a = some ((List.range 45).map fun i => V.ref (itA K a i))
  at_ : (List.range 45).map (fun i => tupV K (itA K a i)) = (List.range 45).map (fun i => some (rowV (rowOf i)))
theorem Rows.row {K : PySem.W.Frag} {a : Addr} (R : Rows K a) {k : Nat} (hk : k < 45) : tupV K (itA K a k) = some (rowV (rowOf k)) := by
  have e := congrArg (fun l => l[k]?) R.at_
  simpa [hk] using e
theorem Rows.sq {K : PySem.W.Frag} {a : Addr} (R : Rows K a) {k : Nat} (hk : k < 45) {H : Hp} : SqT K H (itA K a k) (rowV (rowOf k)) := tupV_sq (R.row hk) (by show 5 ≤ sizeLine; decide)
def rowVal (K : PySem.W.Frag) (aR : Addr) : Option Nat → V
  | none => .non
  | some k => .ref (itA K aR k)
def shapeS : Sg06.Kind → Str
  | .r => Str.ofString "d,a,b"
  | .i => Str.ofString "d,a,n"
  | .m => Str.ofString "d,n(a)"
  | .h => Str.ofString "d,a,n"
  | .s => Str.ofString "b,n(a)"
  | .b => Str.ofString "a,b,n"
  | .u => Str.ofString "d,n"
  | .j => Str.ofString "d,n"
def kinds : List Sg06.Kind := [.r, .i, .m, .h, .s, .b, .u, .j]
theorem shape_eq (kd : Sg06.Kind) : (shapeS kd).cps.toList = shape kd ∧ (shapeS kd).cps.all (· < 128) = true ∧ (shapeS kd).length ≤ 1000 := by cases kd <;> decide +kernel
theorem kl_inj (a b : Sg06.Kind) (h : kl a = kl b) : a = b := by
  cases a <;> cases b <;> first | rfl | (exact absurd h (by decide +kernel))
theorem kinds_all (kd : Sg06.Kind) : kd ∈ kinds := by cases kd <;> decide
/-- a dict of the module, by kinds -/
def KKind (P : Program) (w : World) (K : PySem.W.Frag) (a : Addr) (g : Sg06.Kind → V) : Prop := KTab P w K a (kinds.map fun kd => (Sum.inr (kl kd), g kd))
theorem kkind_get (g : Sg06.Kind → V) (kd : Sg06.Kind) : valV (kinds.map fun kd => ((Sum.inr (kl kd) : Key), g kd)) (Sum.inr (kl kd)) = some (g kd) := by
  refine valV_mem (List.mem_map.mpr ⟨kd, kinds_all kd, rfl⟩) ?_
  rw [List.map_map]
  have e : ((fun x : Key × V => x.1) ∘ fun kd => ((Sum.inr (kl kd) : Key), g kd)) = fun kd => (Sum.inr (kl kd) : Key) := rfl
  rw [e]
  decide +kernel
def sD : Str := Str.ofString "d"
def sA : Str := Str.ofString "a"
def sB : Str := Str.ofString "b"
def sN : Str := Str.ofString "n"
def opsD (o : Ops) : List (Key × V) := [(Sum.inr sD, .int o.d), (Sum.inr sA, .int o.a), (Sum.inr sB, .int o.b), (Sum.inr sN, .int o.n)]
/-- the signs that may stand in a shape -/
theorem signs {c : Nat} {kd : Sg06.Kind} (h : c ∈ shape kd) : c = 100 ∨ c = 97 ∨ c = 98 ∨ c = 110 ∨ c = 44 ∨ c = 40 ∨ c = 41 := by
  have : ∀ kd : Sg06.Kind, ∀ c ∈ shape kd, c = 100 ∨ c = 97 ∨ c = 98 ∨ c = 110 ∨ c = 44 ∨ c = 40 ∨ c = 41 := by
    intro kd
    cases kd <;> decide
  exact this kd c h
theorem vneg {x y : Str} {v : V} {r : List (Key × V)} (h : decide (x = y) = false) : valV ((Sum.inr x, v) :: r) (Sum.inr y) = valV r (Sum.inr y) := valV_neg (fun z => (of_decide_eq_false h) (Sum.inr.inj z))
theorem ops_val (o : Ops) : valV (opsD o) (Sum.inr (⟨#[100]⟩ : Str)) = some (.int o.d) ∧ valV (opsD o) (Sum.inr (⟨#[97]⟩ : Str)) = some (.int o.a) ∧ valV (opsD o) (Sum.inr (⟨#[98]⟩ : Str)) = some (.int o.b) ∧ valV (opsD o) (Sum.inr (⟨#[110]⟩ : Str)) = some (.int o.n) := by
  unfold opsD
  refine ⟨valV_pos rfl, ?_, ?_, ?_⟩
  · rw [vneg (by decide +kernel)]; exact valV_pos rfl
  · rw [vneg (by decide +kernel), vneg (by decide +kernel)]; exact valV_pos rfl
  · rw [vneg (by decide +kernel), vneg (by decide +kernel), vneg (by decide +kernel)]; exact valV_pos rfl
theorem ops_get {o : Ops} {c : Nat} (h : c = 100 ∨ c = 97 ∨ c = 98 ∨ c = 110 ∨ c = 44 ∨ c = 40 ∨ c = 41) : (valV (opsD o) (Sum.inr (⟨#[c]⟩ : Str))).isSome = isOp c := by
  obtain ⟨h1, h2, h3, h4⟩ := ops_val o
  rcases h with rfl | rfl | rfl | rfl | rfl | rfl | rfl
  · rw [h1]; rfl
  · rw [h2]; rfl
  · rw [h3]; rfl
  · rw [h4]; rfl
  all_goals
    (unfold opsD
     rw [vneg (by decide +kernel), vneg (by decide +kernel), vneg (by decide +kernel), vneg (by decide +kernel)]
     rfl)
theorem ops_put {o : Ops} {c : Nat} {v : Int} (h : isOp c = true) : putK (opsD o) (Sum.inr (⟨#[c]⟩ : Str)) (.int v) = opsD (o.put c v) := by
  unfold isOp at h
  simp only [Bool.or_eq_true, beq_iff_eq] at h
  have e1 : (⟨#[100]⟩ : Str) = sD := rfl
  have e2 : (⟨#[97]⟩ : Str) = sA := rfl
  have e3 : (⟨#[98]⟩ : Str) = sB := rfl
  have e4 : (⟨#[110]⟩ : Str) = sN := rfl
  have n1 : sD ≠ sA := by decide +kernel
  have n2 : sD ≠ sB := by decide +kernel
  have n3 : sD ≠ sN := by decide +kernel
  have n4 : sA ≠ sB := by decide +kernel
  have n5 : sA ≠ sN := by decide +kernel
  have n6 : sB ≠ sN := by decide +kernel
  rcases h with ((rfl | rfl) | rfl) | rfl
  · rw [e1]; simp [putK, opsD, En.Ops.put, n1.symm, n2.symm, n3.symm]
  · rw [e2]; simp [putK, opsD, En.Ops.put, n1, n4.symm, n5.symm]
  · rw [e3]; simp [putK, opsD, En.Ops.put, n2, n4, n6.symm]
  · rw [e4]; simp [putK, opsD, En.Ops.put, n3, n5, n6]
def Moved (d : Addr) (H H' : Hp) : Prop := ∀ b u, H b = some u → b ≠ d → H' b = some u
theorem bor_nat (a b : Nat) : Builtin.bitOr (a : Int) (b : Int) = ((a ||| b : Nat) : Int) := by
  rw [Bits.bitOr_pp (Int.natCast_nonneg a) (Int.natCast_nonneg b), Int.toNat_natCast, Int.toNat_natCast]
theorem shl_nat (a k : Nat) : (a : Int) * 2 ^ k = ((a * 2 ^ k : Nat) : Int) := by
  rw [Int.natCast_mul, Int.natCast_pow]
  rfl
theorem runs_mask (kd : Sg06.Kind) : ∀ r ∈ runs kd, (∃ k, k ≤ 20 ∧ r.2.1 + 1 = 2 ^ k) ∧ r.1 ≤ 31 ∧ r.2.2 ≤ 31 := by
  cases kd <;> simp only [runs, List.mem_cons, List.not_mem_nil, or_false, forall_eq_or_imp, forall_eq, false_imp_iff, implies_true, and_true, false_implies]
  · exact ⟨⟨12, by decide, by decide⟩, by decide, by decide⟩
  · exact ⟨⟨12, by decide, by decide⟩, by decide, by decide⟩
  · exact ⟨⟨5, by decide, by decide⟩, by decide, by decide⟩
  · exact ⟨⟨⟨7, by decide, by decide⟩, by decide, by decide⟩, ⟨5, by decide, by decide⟩, by decide, by decide⟩
  · exact ⟨⟨⟨1, by decide, by decide⟩, by decide, by decide⟩, ⟨⟨6, by decide, by decide⟩, by decide, by decide⟩, ⟨⟨4, by decide, by decide⟩, by decide, by decide⟩, ⟨1, by decide, by decide⟩, by decide, by decide⟩
  · exact ⟨⟨20, by decide, by decide⟩, by decide, by decide⟩
  · exact ⟨⟨⟨1, by decide, by decide⟩, by decide, by decide⟩, ⟨⟨10, by decide, by decide⟩, by decide, by decide⟩, ⟨⟨1, by decide, by decide⟩, by decide, by decide⟩, ⟨8, by decide, by decide⟩, by decide, by decide⟩
theorem and_run {n : Int} {l m k : Nat} (hk : m + 1 = 2 ^ k) : Builtin.bitAnd (n / 2 ^ l) (m : Int) = (En.run n l m : Nat) := by
  have e : (m : Int) = 2 ^ k - 1 := by
    have : ((m + 1 : Nat) : Int) = ((2 ^ k : Nat) : Int) := by rw [hk]
    rw [Int.natCast_pow] at this
    have h2 : ((2 : Nat) : Int) = 2 := rfl
    rw [h2] at this
    omega
  have e2 : ((m + 1 : Nat) : Int) = 2 ^ k := by
    rw [hk, Int.natCast_pow]
    rfl
  unfold En.run
  rw [e, PySem.W.kbt_mask, e2]
  have hpos : (0 : Int) < 2 ^ k := by rw [← e2]; omega
  rw [Int.toNat_of_nonneg (Int.emod_nonneg _ (by omega))]
theorem run_lt {n : Int} {l m k : Nat} (hk : m + 1 = 2 ^ k) (h : k ≤ 20) : En.run n l m < 2 ^ 20 := by
  have h1 : En.run n l m < m + 1 := by
    unfold En.run
    have := Int.emod_lt_of_pos (n / 2 ^ l) (b := ((m + 1 : Nat) : Int)) (by omega)
    have := Int.emod_nonneg (n / 2 ^ l) (b := ((m + 1 : Nat) : Int)) (by omega)
    omega
  rw [hk] at h1
  exact Nat.lt_of_lt_of_le h1 (Nat.pow_le_pow_right (by decide) h)
def runV (r : Nat × Nat × Nat) : List V := [.int (r.1 : Nat), .int (r.2.1 : Nat), .int (r.2.2 : Nat)]
theorem runs_len (kd : Sg06.Kind) : (runs kd).length ≤ 4 := by cases kd <;> decide
theorem cpow_nat {a k : Nat} (h : a < 1000) (hk : k ≤ 1000) : CPow (a : Int) (k : Int) := ⟨Int.natCast_nonneg k, by omega, by rw [Int.natAbs_natCast]; exact Nat.lt_of_lt_of_le h (by decide)⟩
/-- a def of the text, behind the top -/
def HasFn (K : PySem.W.Frag) (x : Str) (st : Stmt) : Prop := ∃ (f : Addr) (oc : Value) (od an : Option Addr) (sl : Array (Option Value)) (kV dc pm cd ct : Value), PySem.W.nsIn K mainGlobals x = some (some (.ref f)) ∧
  K.lookup f = some ⟨oc, od, .func (PySem.W.fnOf x x (defArgs st) (defBody st) (defScope st) .none kV dc pm an cd ct), sl⟩ ∧ PySem.W.codeIn K cd x = true ∧ PySem.W.keepIn K (.ref f) = true
theorem hasFn_mk {K : PySem.W.Frag} {x : Str} {st : Stmt} {f : Addr} {oc : Value} {od an : Option Addr} {sl : Array (Option Value)} {kV dc pm cd ct : Value} (a : PySem.W.nsIn K mainGlobals x = some (some (.ref f)))
    (l : K.lookup f = some ⟨oc, od, .func (PySem.W.fnOf x x (defArgs st) (defBody st) (defScope st) .none kV dc pm an cd ct), sl⟩) (c : PySem.W.codeIn K cd x = true) (k : PySem.W.keepIn K (.ref f) = true) : HasFn K x st := ⟨f, oc, od, an, sl, kV, dc, pm, cd, ct, a, l, c, k⟩
theorem HasFn.get {K : PySem.W.Frag} {x : Str} {st : Stmt} (h : HasFn K x st) {hp : Heap} {mg : Str → Option Value} (X : K.In hp) (G : hp.Ns mainGlobals mg) : ∃ (f : Addr) (kV dc pm cd ct : Value) (an : Option Addr), mg x = some (.ref f) ∧
    Fun K x x st f (PySem.W.fnOf x x (defArgs st) (defBody st) (defScope st) .none kV dc pm an cd ct) := by
  obtain ⟨f, oc, od, an, sl, kV, dc, pm, cd, ct, h1, h2, h3, h4⟩ := h
  exact ⟨f, kV, dc, pm, cd, ct, an, PySem.W.mg_of X G h1, fun_mk h2 h3 h4⟩
def HasInt (K : PySem.W.Frag) (x : Str) (n : Int) : Prop := ∃ t : Tok, PySem.W.nsIn K mainGlobals x = some (some (.int n t))
theorem hasInt_mk {K : PySem.W.Frag} {x : Str} {n : Int} {t : Tok} (a : PySem.W.nsIn K mainGlobals x = some (some (.int n t))) : HasInt K x n := ⟨t, a⟩
def HasRef (K : PySem.W.Frag) (x : Str) (a : Addr) : Prop := PySem.W.nsIn K mainGlobals x = some (some (.ref a))
def HasNo (K : PySem.W.Frag) (x : Str) : Prop := PySem.W.nsIn K mainGlobals x = some none
def kix : Sg06.Kind → Nat
  | .r => 0
  | .i => 1
  | .m => 2
  | .h => 3
  | .s => 4
  | .b => 5
  | .u => 6
  | .j => 7
theorem kkind_mk {P : Program} {w : World} {K : PySem.W.Frag} {a : Addr} {g : Sg06.Kind → V} (h0 : isDc K a = true) (h1 : (esOf K a).map (·.hash) = kinds.map (fun kd => PyData.keyHash w.params (kl kd)))
    (h2 : (esOf K a).map (fun e => (absV e.key, absV e.val)) = kinds.map (fun kd => (some (V.str (kl kd)), some (g kd)))) : KKind P w K a g := by
  have h := ktab_mk (P := P) (w := w) (K := K) (a := a) (ks := kinds.map fun kd => (kl kd, g kd)) h0 (by rw [h1, List.map_map]; rfl) (by rw [h2, List.map_map]; rfl) (by rw [List.map_map]; show (kinds.map kl).Nodup; decide +kernel)
  rw [List.map_map] at h
  exact h
theorem kinds_eq {α : Type} {f g : Sg06.Kind → α} (h : kinds.map f = kinds.map g) (kd : Sg06.Kind) : f kd = g kd := by
  have h' : ([f .r, f .i, f .m, f .h, f .s, f .b, f .u, f .j] : List α) = [g .r, g .i, g .m, g .h, g .s, g .b, g .u, g .j] := h
  simp only [List.cons.injEq, and_true] at h'
  obtain ⟨h0, h1, h2, h3, h4, h5, h6, h7⟩ := h'
  cases kd <;> assumption
/-! ### the tables of the module -/
/-- what KINDS has of a kind; where n lies in its words -/
def kA (K : PySem.W.Frag) (aK : Addr) (kd : Sg06.Kind) : Addr := valA K aK (kix kd)
def rA (K : PySem.W.Frag) (aK : Addr) (kd : Sg06.Kind) : Addr := itA K (kA K aK kd) 5
def kdV (K : PySem.W.Frag) (aK : Addr) (kd : Sg06.Kind) : List V := [.str (shapeS kd), .int (fixedM kd : Nat), .int (reachM kd).1, .int (reachM kd).2.1, .int (reachM kd).2.2, .ref (rA K aK kd)]
structure KD (P : Program) (w : World) (K : PySem.W.Frag) (aK : Addr) : Prop where
  tab : KKind P w K aK fun kd => .ref (kA K aK kd)
  tup : ∀ kd, tupV K (kA K aK kd) = some (kdV K aK kd)
  rs : ∀ kd, tupV K (rA K aK kd) = some ((List.range (runs kd).length).map fun j => V.ref (itA K (rA K aK kd) j))
  r : ∀ kd j r, (runs kd)[j]? = some r → tupV K (itA K (rA K aK kd) j) = some (runV r)
theorem KD.sq {P : Program} {w : World} {K : PySem.W.Frag} {aK : Addr} (T : KD P w K aK) (kd : Sg06.Kind) (H : Hp) : SqT K H (kA K aK kd) (kdV K aK kd) := tupV_sq (T.tup kd) (by show 6 ≤ sizeLine; decide)
def placesD : List (Key × V) := [(Sum.inr sD, .int 7), (Sum.inr sA, .int 15), (Sum.inr sB, .int 20)]
/-- the tables, as they are looked up -/
structure Tabs (w : World) (K : PySem.W.Frag) (aR aP aK : Addr) : Prop where
  rows : tupV K aR = some ((List.range 45).map fun i => V.ref (itA K aR i))
  rowsAt : (List.range 45).map (fun i => tupV K (itA K aR i)) = (List.range 45).map (fun i => some (rowV (Sg06.rowOf i)))
  k0 : isDc K aK = true
  k1 : (esOf K aK).map (·.hash) = kinds.map (fun kd => PyData.keyHash w.params (kl kd))
  k2 : (esOf K aK).map (fun e => (absV e.key, absV e.val)) = kinds.map (fun kd => (some (V.str (kl kd)), some (V.ref (kA K aK kd))))
  k3 : kinds.map (fun kd => tupV K (kA K aK kd)) = kinds.map (fun kd => some (kdV K aK kd))
  k4 : kinds.map (fun kd => tupV K (rA K aK kd)) = kinds.map (fun kd => some ((List.range (runs kd).length).map fun j => V.ref (itA K (rA K aK kd) j)))
  k5 : kinds.map (fun kd => (List.range (runs kd).length).map fun j => tupV K (itA K (rA K aK kd) j)) = kinds.map (fun kd => (runs kd).map fun r => some (runV r))
  p0 : isDc K aP = true
  p1 : (esOf K aP).map (·.hash) = [sD, sA, sB].map (fun x => PyData.keyHash w.params x)
  p2 : (esOf K aP).map (fun e => (absV e.key, absV e.val)) = [(sD, V.int 7), (sA, V.int 15), (sB, V.int 20)].map (fun p => (some (V.str p.1), some p.2))
  p3 : (aP == sysModules) = false
theorem Tabs.R {w : World} {K : PySem.W.Frag} {aR aP aK : Addr} (T : Tabs w K aR aP aK) : Rows K aR := ⟨T.rows, T.rowsAt⟩
theorem Tabs.K {P : Program} {w : World} {K : PySem.W.Frag} {aR aP aK : Addr} (T : Tabs w K aR aP aK) : KD P w K aK where
  tab := kkind_mk T.k0 T.k1 T.k2
  tup := kinds_eq T.k3
  rs := kinds_eq T.k4
  r := fun kd j r hj => by
    have e := congrArg (fun l => l[j]?) (kinds_eq T.k5 kd)
    have hlt := (List.getElem?_eq_some_iff.mp hj).1
    simp only [List.getElem?_map, List.getElem?_range hlt, hj, Option.map_some, Option.some.injEq] at e
    exact e
theorem Tabs.P {P : Program} {w : World} {K : PySem.W.Frag} {aR aP aK : Addr} (T : Tabs w K aR aP aK) : KTab P w K aP placesD := by
  have h := ktab_mk (P := P) (w := w) (K := K) (a := aP) (ks := [(sD, V.int 7), (sA, V.int 15), (sB, V.int 20)]) T.p0 T.p1 T.p2 (by decide +kernel)
  exact h
theorem Same.new {H : Hp} {a : Addr} {o : HO} (h : H a = none) : Same H (upd H a o) := fun b u e => by
  rw [upd_ne (ne_of_none e h)]
  exact e
/-- d, a, b and their lowest bits -/
def pl : List (Nat × Nat) := [(100, 7), (97, 15), (98, 20)]
theorem pl_at {i : Nat} {k : Key} {v : V} (h : placesD[i]? = some (k, v)) : ∃ c p : Nat, k = Sum.inr (⟨#[c]⟩ : Str) ∧ v = .int (p : Nat) ∧ pl[i]? = some (c, p) ∧ (c = 100 ∨ c = 97 ∨ c = 98) ∧ p ≤ 31 ∧ valV placesD (Sum.inr (⟨#[c]⟩ : Str)) = some (.int (p : Nat)) := by
  have hm : (k, v) ∈ placesD := List.mem_of_getElem? h
  have hv : valV placesD k = some v := valV_mem hm (by decide +kernel)
  match i, h with
  | 0, h => cases h; exact ⟨100, 7, rfl, rfl, rfl, .inl rfl, by decide, hv⟩
  | 1, h => cases h; exact ⟨97, 15, rfl, rfl, rfl, .inr (.inl rfl), by decide, hv⟩
  | 2, h => cases h; exact ⟨98, 20, rfl, rfl, rfl, .inr (.inr rfl), by decide, hv⟩
  | _ + 3, h => cases h
theorem isOp_pl {c : Nat} (h : c = 100 ∨ c = 97 ∨ c = 98) : isOp c = true := by rcases h with rfl | rfl | rfl <;> rfl
theorem band_nat (a b : Nat) : Builtin.bitAnd (a : Int) (b : Int) = ((a &&& b : Nat) : Int) := by
  simp [Builtin.bitAnd, Int.natCast_nonneg]
end Pr
end

section
set_option Elab.async false
set_option linter.all false
set_option maxRecDepth 100000
set_option maxHeartbeats 2000000
namespace Pr
open PySem PySem.Spec PyProof.Rows L2
/-! ### a comprehension over a text -/
theorem lc_str {x : Str} {g : TG} {tt : TT} {te : TE} {vs : List Nat} {σ : L2.St} {H1 : Hp} {D : Addr} {Qd : Hp → Prop} (Pv : Nat → Hp → Prop) (h0 : Pv 0 (upd H1 D (.lst [])))
    (hs : ∀ i c H, x.cps[i]? = some c → Pv i H → g (.str ⟨#[c]⟩) (wipe σ vs) H fun σ2 H2 => wipe σ2 vs = wipe σ vs ∧ tt σ2 H2 fun b H3 =>
      if b = true then te σ2 H3 fun y H4 => ∃ acc, H4 D = some (.lst acc) ∧ acc.length < sizeLine ∧ Pv (i + 1) (upd H4 D (.lst (acc ++ [y]))) else Pv (i + 1) H3) (hd : ∀ H, Pv x.cps.size H → Qd H) :
    ∃ W : Nat → Nat → Hp → Prop, (∃ m, W 0 m (upd H1 D (.lst []))) ∧ ∀ i m H, W i m H →
      ((Its x).stop i H ∧ Qd H) ∨ ((Its x).go i H ∧ ∃ Nx : Hp → Prop, (∀ H', Nx H' → ∃ m', m' < m ∧ W (i + 1) m' H') ∧ ∀ v H', (Its x).yld i H v H' → g v (wipe σ vs) H' fun σ2 H2 => wipe σ2 vs = wipe σ vs ∧ tt σ2 H2 fun b H3 =>
        if b = true then te σ2 H3 fun y H4 => ∃ acc, H4 D = some (.lst acc) ∧ acc.length < sizeLine ∧ Nx (upd H4 D (.lst (acc ++ [y]))) else Nx H3) := by
  refine ⟨fun i m H => m = x.cps.size - i ∧ i ≤ x.cps.size ∧ Pv i H, ⟨x.cps.size, by simp, Nat.zero_le _, h0⟩, ?_⟩
  rintro i m H ⟨rfl, hi, p⟩
  by_cases hlt : i < x.cps.size
  · refine .inr ⟨hlt, Pv (i + 1), fun H' p' => ⟨x.cps.size - (i + 1), by omega, rfl, hlt, p'⟩, fun v H' y => ?_⟩
    obtain ⟨e, c, hc, y⟩ := y
    subst e y
    exact hs i c _ hc p
  · have e : i = x.cps.size := by omega
    subst e
    exact .inl ⟨Nat.le_refl _, hd H p⟩
section
variable {P : Program} {w : World} {K : PySem.W.Frag} {mg : Str → Option Value} {base : Heap}
/-! ### spelled -/
def codes (x : Str) : List V := x.cps.toList.map fun c => V.int (c : Nat)
def spSpelled : Sp := fun vs H Q _ => ∃ x : Str, vs = [.str x] ∧ x.cps.size ≤ 1000 ∧ ∀ (H' : Hp) (p : Addr), Same H H' → H p = none → H' p = some (.lst (codes x)) → Q (.ref p) H'
theorem scSpelled : FnScope ["text", "sign"] ["text"] (defScope sSpelled) := ⟨rfl, rfl, rfl, by decide +kernel, rfl, by decide +kernel, by decide +kernel⟩
theorem boot_ord : bootBuiltins "ord" = some (.builtin "ord") := by decide +kernel
theorem ok_spelled {f : Addr} {fd : FuncData} (F : Fun K "spelled" "spelled" sSpelled f fd) (hord : mg "ord" = none) : FnOk P w K mg base CX0 1 f fd ["text"] spSpelled := by
  refine F.ok scSpelled (fun vs H Q E h => ?_) (fun cdv A outer s H vs Q E hr h => ?_)
  · obtain ⟨x, rfl, _⟩ := h
    rfl
  · obtain ⟨x, rfl, hx, k⟩ := h
    refine ⟨_, pss_one (ps_ret (pe_lc (own := [("sign", 1)]) rfl scSpelled.nd (pi_str (pv 0)) (blkOk_by rfl) (fun s H C cl fp => pg_name (i := 1) scSpelled.nd rfl (Or.inl rfl)) (fun _ _ _ _ _ => pts_nil)
      (fun s H C cl fp => pe_callB call_ord (by rfl) hord boot_ord (pa_cons (pv 1) pa_nil)))), ?_⟩
    refine ⟨_, rfl, x, rfl, fun D hD => ?_⟩
    refine lc_str (x := x) (fun (i : Nat) (H' : Hp) => H' D = some (.lst ((codes x).take i)) ∧ Same H H') ⟨(by rw [upd_same]; rfl), (fun b o e => by rw [upd_ne (ne_of_none e hD)]; exact e)⟩ ?_ ?_
    · rintro i c H' hc ⟨p1, p2⟩
      refine ⟨rfl, ?_⟩
      unfold tYes
      dsimp only
      rw [if_pos rfl]
      refine ⟨_, rfl, ⟨#[c]⟩, rfl, rfl, _, p1, ?_, ?_, ?_⟩
      · have e : (codes x).length = x.cps.size := by simp [codes]
        have e2 : ((codes x).take i).length ≤ 1000 := by rw [List.length_take]; omega
        exact small1000 e2
      · rw [upd_same]
        have hi : i < x.cps.toList.length := by
          have := Array.getElem?_eq_some_iff.mp hc
          simpa using this.1
        have hg : (codes x)[i]? = some (V.int (c : Nat)) := by
          have hc' : x.cps.toList[i]? = some c := by simpa using hc
          unfold codes
          rw [List.getElem?_map, hc']
          rfl
        rw [take_snoc hg]
        rfl
      · intro b o e
        rw [upd_ne (ne_of_none e hD)]
        exact p2 b o e
    · rintro H' ⟨p1, p2⟩
      refine k H' D p2 hD ?_
      rw [p1, List.take_of_length_le (by simp [codes])]
end
end Pr
end

section
set_option Elab.async false
set_option linter.all false
set_option maxRecDepth 100000
set_option maxHeartbeats 400000
namespace Pr
open PySem PySem.Spec PyProof.Rows L2
open Sg06 (rowOf ascii)
open En (Ops isOp shape runs run reachM)
open De (fixedM fixN rowOfM takeR gatherN gatherM regM opsInM fieldsM)
section
variable {P : Program} {w : World} {K : PySem.W.Frag} {mg : Str → Option Value} {base : Heap}
/-! ### fixed_bits -/
def spFixed (K : PySem.W.Frag) : Sp := fun vs H Q _ => ∃ (r : Addr) (k : Nat), vs = [.ref r] ∧ k < 45 ∧ SqT K H r (rowV (rowOf k)) ∧ Q (.int (fixN (rowOf k) : Nat)) H
theorem scFixed : FnScope ["row"] ["row"] (defScope sFixed) := ⟨rfl, rfl, rfl, by decide +kernel, rfl, by decide +kernel, by decide +kernel⟩
theorem ok_fixed {f : Addr} {fd : FuncData} {t2 t3 t4 : Tok} (F : Fun K "fixed_bits" "fixed_bits" sFixed f fd) (hO : mg "OP" = some (.int 2 t2)) (hF : mg "F" = some (.int 3 t3)) (hG : mg "G" = some (.int 4 t4)) :
    FnOk P w K mg base CX0 1 f fd ["row"] (spFixed K) := by
  refine F.ok scFixed (fun vs H Q E h => ?_) (fun cdv A outer s H vs Q E hr h => ?_)
  · obtain ⟨r, k, rfl, _⟩ := h
    rfl
  · obtain ⟨r, k, rfl, hk, hR, q⟩ := h
    refine ⟨_, pss_one (ps_ret (pe_op op_or (pe_op op_or (pe_ix ix_tup (pv 0) (pe_glob (by rfl) hO (v := .int 2) ⟨_, rfl⟩) (fun _ _ => rfl)) (pe_op op_shl (pe_ix ix_tup (pv 0) (pe_glob (by rfl) hF (v := .int 3) ⟨_, rfl⟩) (fun _ _ => rfl)) pe_int))
      (pe_op op_shl (pe_ix ix_tup (pv 0) (pe_glob (by rfl) hG (v := .int 4) ⟨_, rfl⟩) (fun _ _ => rfl)) pe_int))), ?_⟩
    obtain ⟨r1, r2, r3, _, _⟩ := En.rows_small k hk
    refine ⟨_, rfl, r, _, 2, _, rfl, rfl, hR, atI_nat (j := 2) rfl, _, rfl, r, _, 3, _, rfl, rfl, hR, atI_nat (j := 3) rfl, _, _, rfl, rfl, cpow_nat (k := 12) (by omega) (by decide), _, _, rfl, rfl, _, rfl, r, _, 4, _, rfl, rfl, hR, atI_nat (j := 4) rfl, _, _, rfl, rfl, cpow_nat (k := 25) (by omega) (by decide), _, _, rfl, rfl, ?_⟩
    have e : Builtin.bitOr (Builtin.bitOr ((rowOf k).op : Int) (((rowOf k).f : Int) * 2 ^ Int.toNat 12)) (((rowOf k).g : Int) * 2 ^ Int.toNat 25) = ((fixN (rowOf k) : Nat) : Int) := by
      rw [show Int.toNat 12 = 12 from rfl, show Int.toNat 25 = 25 from rfl]
      unfold fixN
      rw [shl_nat, shl_nat, bor_nat, bor_nat]
    show Q (V.int _) H
    rw [← e] at q
    exact q
end
end Pr
end

section
set_option Elab.async false
set_option linter.all false
set_option maxRecDepth 100000
set_option maxHeartbeats 2000000
namespace Pr
open PySem PySem.Spec PyProof.Rows L2
section
variable {P : Program} {w : World} {K : PySem.W.Frag} {mg : Str → Option Value} {base : Heap}
/-! ### digit_of -/
def digI (c : Int) : Int := if 48 ≤ c ∧ c ≤ 57 then c - 48 else if 97 ≤ c ∧ c ≤ 102 then c - 97 + 10 else if 65 ≤ c ∧ c ≤ 70 then c - 65 + 10 else 16
def spDigit : Sp := fun vs H Q _ => ∃ c : Int, vs = [.int c] ∧ Q (.int (digI c)) H
theorem scDigit : FnScope ["byte"] ["byte"] (defScope sDigit) := ⟨rfl, rfl, rfl, by decide +kernel, rfl, by decide +kernel, by decide +kernel⟩
theorem ord_0 : (Str.ofString "0").length = 1 ∧ (Str.ofString "0").cps.getD 0 0 = 48 := by decide +kernel
theorem ord_9 : (Str.ofString "9").length = 1 ∧ (Str.ofString "9").cps.getD 0 0 = 57 := by decide +kernel
theorem ord_a : (Str.ofString "a").length = 1 ∧ (Str.ofString "a").cps.getD 0 0 = 97 := by decide +kernel
theorem ord_f : (Str.ofString "f").length = 1 ∧ (Str.ofString "f").cps.getD 0 0 = 102 := by decide +kernel
theorem ord_A : (Str.ofString "A").length = 1 ∧ (Str.ofString "A").cps.getD 0 0 = 65 := by decide +kernel
theorem ord_F : (Str.ofString "F").length = 1 ∧ (Str.ofString "F").cps.getD 0 0 = 70 := by decide +kernel
theorem ok_digit {f : Addr} {fd : FuncData} (F : Fun K "digit_of" "digit_of" sDigit f fd) (hord : mg "ord" = none) : FnOk P w K mg base CX0 1 f fd ["byte"] spDigit := by
  refine F.ok scDigit (fun vs H Q E h => ?_) (fun cdv A outer s H vs Q E hr h => ?_)
  · obtain ⟨x, rfl, _⟩ := h
    rfl
  · obtain ⟨c, rfl, k⟩ := h
    refine ⟨_, pss_cons (ps_if (pt_chain op_le op_le (pe_callB call_ord (by rfl) hord boot_ord (pa_cons pe_str pa_nil)) (pv 0) (pe_callB call_ord (by rfl) hord boot_ord (pa_cons pe_str pa_nil))) (pss_one (ps_ret (pe_op op_sub (pv 0) (pe_callB call_ord (by rfl) hord boot_ord (pa_cons pe_str pa_nil))))) pss_nil)
      (pss_cons (ps_if (pt_chain op_le op_le (pe_callB call_ord (by rfl) hord boot_ord (pa_cons pe_str pa_nil)) (pv 0) (pe_callB call_ord (by rfl) hord boot_ord (pa_cons pe_str pa_nil))) (pss_one (ps_ret (pe_op op_add (pe_op op_sub (pv 0) (pe_callB call_ord (by rfl) hord boot_ord (pa_cons pe_str pa_nil))) pe_int))) pss_nil)
      (pss_cons (ps_if (pt_chain op_le op_le (pe_callB call_ord (by rfl) hord boot_ord (pa_cons pe_str pa_nil)) (pv 0) (pe_callB call_ord (by rfl) hord boot_ord (pa_cons pe_str pa_nil))) (pss_one (ps_ret (pe_op op_add (pe_op op_sub (pv 0) (pe_callB call_ord (by rfl) hord boot_ord (pa_cons pe_str pa_nil))) pe_int))) pss_nil)
      (pss_one (ps_ret pe_int)))), ?_⟩
    have key : ∀ d : Int, d = digI c → Q (V.int d) H := fun d e => by rw [e]; exact k
    simp only [tSeq, tIfS, tTest, tChain, tCB, tCons, tC, tNil, tVar, tOp, rI0, tRet, tNext, L2.start, List.map_cons, List.map_nil, List.cons_append, List.nil_append, List.getElem?_cons_zero, Option.some.injEq, V.int.injEq, List.cons.injEq, V.str.injEq, and_true, true_and,
      exists_eq_left', exists_eq_left, exists_and_left, ord_0, ord_9, ord_a, ord_f, ord_A, ord_F, V.bl.injEq]
    simp only [decide_eq_true_eq, Bool.false_eq_true, if_false]
    repeat' split
    all_goals (apply key; unfold digI; repeat' split)
    all_goals omega
end
end Pr
end

section
set_option Elab.async false
set_option linter.all false
set_option maxRecDepth 100000
set_option maxHeartbeats 2000000
namespace Pr
open PySem PySem.Spec PyProof.Rows L2
open En (foldM valueM digitM)
def optN : Option Nat → V
  | none => .non
  | some n => .int (n : Int)
theorem foldM_append (base : Nat) : ∀ (l r : List UInt8) (v : Nat), foldM base (l ++ r) v = (foldM base l v).bind (foldM base r)
  | [], r, v => rfl
  | c :: l, r, v => by
    rw [List.cons_append, foldM, foldM]
    split
    · rfl
    · exact foldM_append base l r _
theorem digI_eq (b : UInt8) : digI (b.toNat : Int) = (digitM b : Nat) := by
  unfold digI digitM
  have e1 : (48 ≤ b ∧ b ≤ 57) ↔ (48 ≤ (b.toNat : Int) ∧ (b.toNat : Int) ≤ 57) := by
    constructor
    · rintro ⟨h1, h2⟩
      have h1' : 48 ≤ b.toNat := h1
      have h2' : b.toNat ≤ 57 := h2
      omega
    · rintro ⟨h1, h2⟩
      exact ⟨show 48 ≤ b.toNat by omega, show b.toNat ≤ 57 by omega⟩
  have e2 : (97 ≤ b ∧ b ≤ 102) ↔ (97 ≤ (b.toNat : Int) ∧ (b.toNat : Int) ≤ 102) := by
    constructor
    · rintro ⟨h1, h2⟩
      have h1' : 97 ≤ b.toNat := h1
      have h2' : b.toNat ≤ 102 := h2
      omega
    · rintro ⟨h1, h2⟩
      exact ⟨show 97 ≤ b.toNat by omega, show b.toNat ≤ 102 by omega⟩
  have e3 : (65 ≤ b ∧ b ≤ 70) ↔ (65 ≤ (b.toNat : Int) ∧ (b.toNat : Int) ≤ 70) := by
    constructor
    · rintro ⟨h1, h2⟩
      have h1' : 65 ≤ b.toNat := h1
      have h2' : b.toNat ≤ 70 := h2
      omega
    · rintro ⟨h1, h2⟩
      exact ⟨show 65 ≤ b.toNat by omega, show b.toNat ≤ 70 by omega⟩
  simp only [e1, e2, e3]
  repeat' split
  all_goals omega
theorem ib_get {bs : List UInt8} {i : Nat} {y : V} (h : (ib bs)[i]? = some y) : ∃ b, bs[i]? = some b ∧ y = V.int (b.toNat : Int) := by
  unfold ib at h
  rw [List.getElem?_map] at h
  cases e : bs[i]? with
  | none => rw [e] at h; cases h
  | some b => rw [e] at h; exact ⟨b, rfl, (Option.some.inj h).symm⟩
section
variable {P : Program} {w : World} {K : PySem.W.Frag} {mg : Str → Option Value} {base : Heap}
def spValue (K : PySem.W.Frag) : Sp := fun vs H Q _ => ∃ (a : Addr) (bs : List UInt8) (m n : Nat), vs = [.ref a, .int (m : Int), .int (n : Int)] ∧ SqL K H a (ib bs) ∧ m ≤ 16 ∧ Q (optN (valueM bs m n)) H
theorem scValue : FnScope ["digits", "base", "most", "value", "byte", "digit"] ["digits", "base", "most"] (defScope sValue) := ⟨rfl, rfl, rfl, by decide +kernel, rfl, by decide +kernel, by decide +kernel⟩
theorem ok_value {f fg : Addr} {fd gd : FuncData} (F : Fun K "value_of" "value_of" sValue f fd) (G : Ca P w K mg base "digit_of" ["byte"] 1 spDigit fg gd) (hlen : mg "len" = none) : FnOk P w K mg base CX0 2 f fd ["digits", "base", "most"] (spValue K) := by
  refine F.ok scValue (fun vs H Q E h => ?_) (fun cdv A outer s H vs Q E hr h => ?_)
  · obtain ⟨a, bs, m, n, rfl, _⟩ := h
    rfl
  · obtain ⟨a, bs, m, n, rfl, hS, hm, k⟩ := h
    refine ⟨_, pss_cons (ps_if (pw_or (pt_cmpR op_eq (pe_callB call_len_seq (by rfl) hlen PySem.boot_len (pa_cons (pv 0) pa_nil)) pe_int (nomark _)) (pw_or1 (pt_cmpR op_gt (pe_callB call_len_seq (by rfl) hlen PySem.boot_len (pa_cons (pv 0) pa_nil)) (pv 2) (nomark _)))).pt (pss_one (ps_ret pe_non)) pss_nil)
      (pss_cons (ps_set (i := 3) scValue.nd rfl (Or.inl rfl) pe_int)
      (pss_cons (ps_for PassesOwn.never rfl (pi_list (pv 0)) (pg_name (i := 4) scValue.nd rfl (Or.inl rfl))
        (pss_cons (ps_set (i := 5) scValue.nd rfl (Or.inl rfl) (pe_call G.ok hr rfl G.at_ G.kp G.b .nil pass0 (pa_cons (pv 4) pa_nil)))
        (pss_cons (ps_if (pt_cmpR op_ge (pv 5) (pv 1) (nomark _)) (pss_one (ps_ret pe_non)) pss_nil)
        (pss_one (ps_set (i := 3) scValue.nd rfl (Or.inl rfl) (pe_op op_add (pe_op op_mul (pv 3) (pv 1)) (pv 5)))))))
      (pss_one (ps_ret (pv 3))))), ?_⟩
    have hl : (ib bs).length = bs.length := by simp [ib]
    rw [show L2.start ["digits", "base", "most", "value", "byte", "digit"] [.ref a, .int (m : Int), .int (n : Int)] = [some (.ref a), some (.int m), some (.int n), none, none, none] from rfl]
    simp only [tSeq, tIfS, tTest, tOr, tAnd, tNot, tB, tChain, tCB, tCall, tCons, tC, tNil, tVar, tOp, tUn, rI0, rI, rU, rEq, rNe, tRet, tRetN, tNext, tAsg, gName, tDrop, List.append_nil, List.map_cons, List.map_nil, List.cons_append, List.nil_append, List.getElem?_cons_zero, List.getElem?_cons_succ, List.set_cons_zero, List.set_cons_succ, Option.some.injEq, V.int.injEq, V.ref.injEq, List.cons.injEq, V.str.injEq, V.bl.injEq, and_true, true_and, exists_eq_left', exists_eq_left, exists_and_left, exists_eq_right, exists_eq_right', scal]
    refine ⟨ib bs, .inl hS, ?_⟩
    rw [hl]
    by_cases h0 : bs.length = 0
    · rw [if_pos (by simp [h0])]
      have e : valueM bs m n = none := by unfold valueM; rw [if_pos (.inl h0)]
      rw [e] at k
      simp only [if_true]
      exact k
    · rw [if_neg (by rw [decide_eq_true_eq]; omega)]
      refine ⟨ib bs, .inl hS, ?_⟩
      rw [hl]
      by_cases h1 : n < bs.length
      · rw [if_pos (by rw [decide_eq_true_eq]; omega)]
        have e : valueM bs m n = none := by unfold valueM; rw [if_pos (.inr h1)]
        rw [e] at k
        exact k
      · rw [if_neg (by rw [decide_eq_true_eq]; omega)]
        have ev : valueM bs m n = foldM m bs 0 := by unfold valueM; rw [if_neg (by omega)]
        rw [ev] at k
        refine ⟨_, rfl, a, rfl, ⟨_, hS⟩, for_list (K := K) (a := a) (xs := ib bs) (fun (i : Nat) (σ : L2.St) (H' : Hp) => H' = H ∧ ∃ (v : Nat) (x4 x5 : Option V), σ = [some (.ref a), some (.int m), some (.int n), some (.int v), x4, x5] ∧ foldM m (bs.take i) 0 = some v)
          ⟨rfl, 0, none, none, rfl, rfl⟩ (fun i σ H' _ ⟨e, _⟩ => by rw [e]; exact hS) ?_ ?_⟩
        · rintro i y σ H' hi ⟨rfl, v, x4, x5, rfl, hv⟩
          obtain ⟨b, hb, rfl⟩ := ib_get hi
          refine ⟨_, rfl, ?_⟩
          simp only [tSeq, tIfS, tTest, tOr, tAnd, tNot, tB, tChain, tCB, tCall, tCons, tC, tNil, tVar, tOp, tUn, rI0, rI, rU, rEq, rNe, tRet, tRetN, tNext, tAsg, gName, tDrop, List.append_nil, List.map_cons, List.map_nil, List.cons_append, List.nil_append, List.getElem?_cons_zero, List.getElem?_cons_succ, List.set_cons_zero, List.set_cons_succ, Option.some.injEq, V.int.injEq, V.ref.injEq, List.cons.injEq, V.str.injEq, V.bl.injEq, and_true, true_and, exists_eq_left', exists_eq_left, exists_and_left, exists_eq_right, exists_eq_right', scal]
          refine ⟨_, rfl, _, rfl, ?_⟩
          rw [digI_eq]
          by_cases hd : m ≤ digitM b
          · rw [if_pos (by rw [decide_eq_true_eq]; omega)]
            have e : foldM m bs 0 = none := by
              rw [← List.take_append_drop i bs, foldM_append, hv, Option.bind_some, drop_at hb, foldM, if_pos hd]
            rw [e] at k
            exact k
          · rw [if_neg (by rw [decide_eq_true_eq]; omega)]
            refine ⟨.inr ⟨by omega, by omega⟩, _, rfl, rfl, v * m + digitM b, _, _, ⟨by simp, rfl, rfl⟩, ?_⟩
            rw [take_snoc hb, foldM_append, hv, Option.bind_some, foldM, if_neg hd]
            rfl
        · rintro σ H' ⟨rfl, v, x4, x5, rfl, hv⟩
          rw [hl, List.take_length] at hv
          refine ⟨_, rfl, ?_⟩
          rw [hv] at k
          exact k
end
end Pr
end

section
set_option Elab.async false
set_option linter.all false
set_option maxRecDepth 100000
set_option maxHeartbeats 400000
namespace Pr
open PySem PySem.Spec PyProof.Rows L2
open En (numberM valueM placeM regName)
/-! ### lists compared -/
def dB (p : List UInt8) : PyData := .list (p.map fun b => .int (b.toNat : Int))
def dL (ps : List (List UInt8)) : PyData := .list (ps.map dB)
theorem dpAll_ib {K : PySem.W.Frag} {H : Hp} : ∀ p : List UInt8, DpAll K H (ib p) (p.map fun b => .int (b.toNat : Int))
  | [] => .nil
  | b :: p => .cons (.int _) (dpAll_ib p)
theorem dp_ib {K : PySem.W.Frag} {H : Hp} {a : Addr} {p : List UInt8} (h : SqL K H a (ib p)) : Dp K H (.ref a) (dB p) := .lst h (dpAll_ib p)
theorem lay_ib : ∀ p : List UInt8, PyData.canLayAll0 (p.map fun b => .int (b.toNat : Int)) = true ∧ PyData.depthAll (p.map fun b => .int (b.toNat : Int)) ≤ 1
  | [] => ⟨by simp [PyData.canLayAll0], by simp [PyData.depthAll]⟩
  | b :: p => by
    obtain ⟨h1, h2⟩ := lay_ib p
    constructor
    · simp [PyData.canLayAll0, PyData.canLay0, h1]
    · simp only [List.map_cons, PyData.depthAll, PyData.depth]
      omega
theorem shaped_dB (p : List UInt8) : SeqAt.shaped (dB p) = true := by
  obtain ⟨h1, h2⟩ := lay_ib p
  have e1 : (dB p).canLay0 = true := by rw [dB, PyData.canLay0]; exact h1
  have e2 : (dB p).depth ≤ 64 := by rw [dB, PyData.depth]; omega
  unfold SeqAt.shaped
  rw [e1, decide_eq_true e2]
  rfl
theorem lay_dL : ∀ ps : List (List UInt8), PyData.canLayAll0 (ps.map dB) = true ∧ PyData.depthAll (ps.map dB) ≤ 2
  | [] => ⟨by simp [PyData.canLayAll0], by simp [PyData.depthAll]⟩
  | p :: ps => by
    obtain ⟨h1, h2⟩ := lay_dL ps
    obtain ⟨g1, g2⟩ := lay_ib p
    constructor
    · simp [PyData.canLayAll0, dB, PyData.canLay0, g1]
      simpa [dB] using h1
    · simp only [List.map_cons, PyData.depthAll]
      have : (dB p).depth ≤ 2 := by
        simp only [dB, PyData.depth]
        omega
      omega
theorem shaped_dL (ps : List (List UInt8)) : SeqAt.shaped (dL ps) = true := by
  obtain ⟨h1, h2⟩ := lay_dL ps
  have e1 : (dL ps).canLay0 = true := by rw [dL, PyData.canLay0]; exact h1
  have e2 : (dL ps).depth ≤ 64 := by rw [dL, PyData.depth]; omega
  unfold SeqAt.shaped
  rw [e1, decide_eq_true e2]
  rfl
theorem eqvAll_ib : ∀ p q : List UInt8, PyData.eqvAll (p.map fun b => .int (b.toNat : Int)) (q.map fun b => .int (b.toNat : Int)) = decide (p = q)
  | [], [] => by simp [PyData.eqvAll]
  | [], _ :: _ => by simp [PyData.eqvAll]
  | _ :: _, [] => by simp [PyData.eqvAll]
  | b :: p, c :: q => by
    simp only [List.map_cons, PyData.eqvAll, PyData.eqv, eqvAll_ib p q]
    rw [Bool.eq_iff_iff]
    simp only [Bool.and_eq_true, beq_iff_eq, decide_eq_true_eq, List.cons.injEq]
    have : ((b.toNat : Int) = (c.toNat : Int)) ↔ b = c := by
      rw [Int.ofNat_inj, UInt8.toNat_inj]
    rw [this]
theorem eqv_dB (p q : List UInt8) : PyData.eqv (dB p) (dB q) = decide (p = q) := by
  unfold dB
  rw [PyData.eqv, eqvAll_ib]
theorem eqvAll_dL : ∀ ps qs : List (List UInt8), PyData.eqvAll (ps.map dB) (qs.map dB) = decide (ps = qs)
  | [], [] => by simp [PyData.eqvAll]
  | [], _ :: _ => by simp [PyData.eqvAll]
  | _ :: _, [] => by simp [PyData.eqvAll]
  | p :: ps, q :: qs => by
    simp only [List.map_cons, PyData.eqvAll, eqv_dB, eqvAll_dL ps qs]
    rw [Bool.eq_iff_iff]
    simp only [Bool.and_eq_true, decide_eq_true_eq, List.cons.injEq]
theorem eqv_dL (ps qs : List (List UInt8)) : PyData.eqv (dL ps) (dL qs) = decide (ps = qs) := by
  unfold dL
  rw [PyData.eqv, eqvAll_dL]
/-! ### slices -/
theorem cut_to (xs : List V) (k : Nat) : cutV xs none (some (k : Int)) = xs.take k := by
  unfold cutV
  rw [HT.sIx_none, HT.sIx_nat, List.drop_zero, Nat.sub_zero]
  rcases Nat.le_total k xs.length with h | h
  · rw [Nat.min_eq_left h]
  · rw [Nat.min_eq_right h, List.take_of_length_le (Nat.le_refl _), List.take_of_length_le h]
theorem cut_from (xs : List V) (k : Nat) : cutV xs (some (k : Int)) none = xs.drop k := by
  unfold cutV
  rw [HT.sIx_none, HT.sIx_nat]
  rcases Nat.le_total k xs.length with h | h
  · rw [Nat.min_eq_left h, List.take_of_length_le (by rw [List.length_drop]; exact Nat.le_refl _)]
  · rw [Nat.min_eq_right h, List.drop_of_length_le (Nat.le_refl _), List.drop_of_length_le h, List.take_nil]
theorem ib_take (p : List UInt8) (k : Nat) : (ib p).take k = ib (p.take k) := by simp [ib, List.map_take]
theorem ib_drop (p : List UInt8) (k : Nat) : (ib p).drop k = ib (p.drop k) := by simp [ib, List.map_drop]
def optI : Option Int → V
  | none => .non
  | some n => .int n
theorem num_hex {p : List UInt8} (h : p.take 2 = [48, 120]) : optI (numberM p) = optN (valueM (p.drop 2) 16 8) := by
  unfold numberM
  rw [if_pos h]
  cases valueM (p.drop 2) 16 8 <;> rfl
theorem num_dec {p : List UInt8} (h : ¬ p.take 2 = [48, 120]) (h1 : p.take 1 ≠ [45]) : optI (numberM p) = optN (valueM p 10 10) := by
  unfold numberM
  rw [if_neg h, if_pos h1]
  cases valueM p 10 10 <;> rfl
def negN : Option Nat → V
  | none => .non
  | some n => .int (-(n : Int))
theorem num_neg {p : List UInt8} (h : ¬ p.take 2 = [48, 120]) (h1 : p.take 1 = [45]) : optI (numberM p) = negN (valueM (p.drop 1) 10 10) := by
  unfold numberM
  rw [if_neg h, if_neg (by simp [h1])]
  cases valueM (p.drop 1) 10 10 <;> rfl
theorem codes_0x : codes (Str.ofString "0x") = ib [48, 120] := by decide +kernel
section
variable {P : Program} {w : World} {K : PySem.W.Frag} {mg : Str → Option Value} {base : Heap}
def spNumber (K : PySem.W.Frag) : Sp := fun vs H Q _ => ∃ (a : Addr) (p : List UInt8), vs = [.ref a] ∧ SqL K H a (ib p) ∧ p ≠ [] ∧ ∀ H' : Hp, Same H H' → Q (optI (numberM p)) H'
theorem scNumber : FnScope ["piece", "value"] ["piece"] (defScope sNumber) := ⟨rfl, rfl, rfl, by decide +kernel, rfl, by decide +kernel, by decide +kernel⟩
theorem ok_number {f fs fv : Addr} {fd sd vd : FuncData} {t : Tok} (F : Fun K "number_of" "number_of" sNumber f fd) (S : Ca P w K mg base "spelled" ["text"] 1 spSpelled fs sd) (G : Ca P w K mg base "value_of" ["digits", "base", "most"] 2 (spValue K) fv vd)
    (hmin : mg "MINUS" = some (.int 45 t)) : FnOk P w K mg base CX0 3 f fd ["piece"] (spNumber K) := by
  refine F.ok scNumber (fun vs H Q E h => ?_) (fun cdv A outer s H vs Q E hr h => ?_)
  · obtain ⟨a, p, rfl, _⟩ := h
    rfl
  · obtain ⟨a, p, rfl, hS, hp, k⟩ := h
    have hr1 : Room 1 _ := hr.mono (by decide)
    obtain ⟨b, p', hb0⟩ : ∃ b p', p = b :: p' := by
      cases p with
      | nil => exact absurd rfl hp
      | cons b p' => exact ⟨b, p', rfl⟩
    refine ⟨_, pss_cons (ps_if (pt_cmpR (op_eqD hr.units) (pe_slice sl_list (pv 0) po_none (po_some pe_int)) (pe_call S.ok hr1 rfl S.at_ S.kp S.b .nil pass0 (pa_cons pe_str pa_nil)) (nomark _))
        (pss_one (ps_ret (pe_call G.ok hr rfl G.at_ G.kp G.b .nil pass0 (pa_cons (pe_slice sl_list (pv 0) (po_some pe_int) po_none) (pa_cons pe_int (pa_cons pe_int pa_nil)))))) pss_nil)
      (pss_cons (ps_if (pt_cmpR op_ne (pe_ix ix_list (pv 0) pe_int (fun _ _ => rfl)) (pe_glob (by rfl) hmin (v := .int 45) ⟨_, rfl⟩) (nomark _))
        (pss_one (ps_ret (pe_call G.ok hr rfl G.at_ G.kp G.b .nil pass0 (pa_cons (pv 0) (pa_cons pe_int (pa_cons pe_int pa_nil)))))) pss_nil)
      (pss_cons (ps_set (i := 1) scNumber.nd rfl (Or.inl rfl) (pe_call G.ok hr rfl G.at_ G.kp G.b .nil pass0 (pa_cons (pe_slice sl_list (pv 0) (po_some pe_int) po_none) (pa_cons pe_int (pa_cons pe_int pa_nil)))))
      (pss_one (ps_ret (pe_ifExp (pt_cmp (pc_isN (pv 1))) pe_non (pe_un un_neg (pv 1))))))), ?_⟩
    rw [show L2.start ["piece", "value"] [.ref a] = [some (.ref a), none] from rfl]
    simp only [tSeq, tIfS, tTest, tOr, tAnd, tNot, tB, tChain, tCB, tCall, tCons, tC, tNil, tVar, tOp, tUn, rI0, rI, rU, rEq, rNe, tRet, tRetN, tNext, tAsg, gName, tDrop, List.append_nil, List.map_cons, List.map_nil, List.cons_append, List.nil_append, List.getElem?_cons_zero, List.getElem?_cons_succ, List.set_cons_zero, List.set_cons_succ, Option.some.injEq, V.int.injEq, V.ref.injEq, List.cons.injEq, V.str.injEq, V.bl.injEq, and_true, true_and, exists_eq_left', exists_eq_left, exists_and_left, exists_eq_right, exists_eq_right', tSl, tNoPart, tPart, rSlL, rEqD, tIf, tIsN, rIxL]
    refine ⟨_, hS, fun q hq => ?_⟩
    rw [show cutV (ib p) none (some 2) = ib (p.take 2) by rw [show (2 : Int) = ((2 : Nat) : Int) from rfl, cut_to, ib_take]]
    refine ⟨_, rfl, by decide +kernel, fun H2 r s2 hr2 hr' => ?_⟩
    have s1 : Same H H2 := (Same.new hq).trans s2
    refine ⟨_, dp_ib (SqL.of (s2 _ _ upd_same)), dB [48, 120], dp_ib (SqL.of (by rw [hr', codes_0x])), shaped_dB _, shaped_dB _, ?_⟩
    rw [eqv_dB]
    by_cases h2 : p.take 2 = [48, 120]
    · rw [if_pos (decide_eq_true h2)]
      refine ⟨_, s1.seq hS, fun q2 hq2 => ?_⟩
      rw [show cutV (ib p) (some 2) none = ib (p.drop 2) by rw [show (2 : Int) = ((2 : Nat) : Int) from rfl, cut_from, ib_drop]]
      refine ⟨q2, p.drop 2, 16, 8, rfl, SqL.of upd_same, by decide, ?_⟩
      rw [← num_hex h2]
      exact k _ (s1.trans (Same.new hq2))
    · rw [if_neg (by rw [decide_eq_true_eq]; exact h2)]
      refine ⟨_, s1.seq hS, V.int (b.toNat : Int), atI_nat (j := 0) (by rw [hb0]; rfl), rfl, ?_⟩
      by_cases h45 : b = 45
      · rw [if_neg (by rw [h45]; decide)]
        refine ⟨_, s1.seq hS, fun q2 hq2 => ?_⟩
        rw [show cutV (ib p) (some 1) none = ib (p.drop 1) by rw [show (1 : Int) = ((1 : Nat) : Int) from rfl, cut_from, ib_drop]]
        refine ⟨q2, p.drop 1, 10, 10, rfl, SqL.of upd_same, by decide, ?_⟩
        have k' := k (upd H2 q2 (.lst (ib (p.drop 1)))) (s1.trans (Same.new hq2))
        rw [num_neg h2 (by rw [hb0, h45]; rfl)] at k'
        cases hv : valueM (p.drop 1) 10 10 with
        | none =>
          rw [hv] at k'
          exact k'
        | some n =>
          rw [hv] at k'
          exact ⟨_, rfl, k'⟩
      · have hb : ¬ (b.toNat : Int) = 45 := by
          intro z
          apply h45
          apply UInt8.toNat_inj.mp
          have : b.toNat = 45 := by omega
          exact this
        rw [if_pos (by simp [hb])]
        refine ⟨a, p, 10, 10, rfl, s1.seq hS, by decide, ?_⟩
        rw [← num_dec h2 (by rw [hb0]; simp [h45])]
        exact k _ s1
/-! ### place_of -/
theorem codes_reg : ∀ n : Nat, n < 32 → codes (Str.ofString "x" ++ Str.ofString (toString (n : Int))) = ib (regName n) ∧ (Str.ofString "x" ++ Str.ofString (toString (n : Int))).cps.size ≤ 1000 := by decide +kernel
def spPlace (K : PySem.W.Frag) : Sp := fun vs H Q _ => ∃ (a : Addr) (p : List UInt8), vs = [.ref a] ∧ SqL K H a (ib p) ∧ ∀ H' : Hp, Same H H' → Q (optN (placeM p)) H'
theorem scPlace : FnScope ["piece", "place"] ["piece"] (defScope sPlace) := ⟨rfl, rfl, rfl, by decide +kernel, rfl, by decide +kernel, by decide +kernel⟩
theorem ok_place {f fs : Addr} {fd sd : FuncData} (F : Fun K "place_of" "place_of" sPlace f fd) (S : Ca P w K mg base "spelled" ["text"] 1 spSpelled fs sd) (hrange : mg "range" = none) : FnOk P w K mg base CX0 2 f fd ["piece"] (spPlace K) := by
  refine F.ok scPlace (fun vs H Q E h => ?_) (fun cdv A outer s H vs Q E hr h => ?_)
  · obtain ⟨a, p, rfl, _⟩ := h
    rfl
  · obtain ⟨a, p, rfl, hS, k⟩ := h
    refine ⟨_, pss_cons (ps_for PassesOwn.never rfl (pi_range1 rfl hrange (pa_cons pe_int pa_nil)) (pg_name (i := 1) scPlace.nd rfl (Or.inl rfl))
        (pss_one (ps_if (pt_cmpR (op_eqD hr.units) (pv 0) (pe_call S.ok hr rfl S.at_ S.kp S.b .nil pass0 (pa_cons (pe_fstr (pv 1)) pa_nil)) (nomark _)) (pss_one (ps_ret (pv 1))) pss_nil)))
      (pss_one (ps_ret pe_non)), ?_⟩
    rw [show L2.start ["piece", "place"] [.ref a] = [some (.ref a), none] from rfl]
    refine ⟨32, rfl, by decide, by decide, for_range (lo := 0) (n := 32) (fun (i : Nat) (σ : L2.St) (H' : Hp) => Same H H' ∧ ∃ x : Option V, σ = [some (.ref a), x] ∧ ∀ j, j < i → ¬ p = regName j) ⟨fun _ _ e => e, none, rfl, fun j hj => absurd hj (Nat.not_lt_zero _)⟩ ?_ ?_⟩
    · rintro i σ H' hi ⟨s1, x, rfl, hno⟩
      simp only [tSeq, tIfS, tTest, tOr, tAnd, tNot, tB, tChain, tCB, tCall, tCons, tC, tNil, tVar, tOp, tUn, rI0, rI, rU, rEq, rNe, tRet, tRetN, tNext, tAsg, gName, tDrop, List.append_nil, List.map_cons, List.map_nil, List.cons_append, List.nil_append, List.getElem?_cons_zero, List.getElem?_cons_succ, List.set_cons_zero, List.set_cons_succ, Option.some.injEq, V.int.injEq, V.ref.injEq, List.cons.injEq, V.str.injEq, V.bl.injEq, and_true, true_and, exists_eq_left', exists_eq_left, exists_and_left, exists_eq_right, exists_eq_right', rEqD, tFstr, Int.zero_add]
      refine ⟨i, rfl, Nat.lt_of_lt_of_le hi (by decide), ?_⟩
      obtain ⟨ec, el⟩ := codes_reg i hi
      refine ⟨_, rfl, el, fun H2 r s2 hr2 hr' => ?_⟩
      refine ⟨_, dp_ib ((s1.trans s2).seq hS), dB (regName i), dp_ib (SqL.of (by rw [hr', ec])), shaped_dB _, shaped_dB _, ?_⟩
      rw [eqv_dB]
      by_cases he : p = regName i
      · rw [if_pos (decide_eq_true he)]
        have e : placeM p = some i := En.find_range hi (by simp [he]) (fun j hj => by simp only [beq_eq_false_iff_ne]; exact hno j hj)
        have k' := k H2 (s1.trans s2)
        rw [e] at k'
        exact k'
      · rw [if_neg (by rw [decide_eq_true_eq]; exact he)]
        refine ⟨s1.trans s2, fun j hj => ?_⟩
        rcases Nat.lt_succ_iff_lt_or_eq.mp hj with g | g
        · exact hno j g
        · rw [g]; exact he
    · rintro σ H' ⟨s1, x, rfl, hno⟩
      have e : placeM p = none := by
        unfold placeM
        rw [List.find?_eq_none]
        intro j hj
        simp only [beq_iff_eq]
        exact hno j (List.mem_range.mp hj)
      have k' := k H' s1
      rw [e] at k'
      exact k'
end
end Pr
end

section
set_option Elab.async false
set_option linter.all false
set_option maxRecDepth 100000
set_option maxHeartbeats 400000
namespace Pr
open PySem PySem.Spec PyProof.Rows L2
open En (piecesM stepB inner mark)
/-! ### list + list, read -/
def rCatS (K : PySem.W.Frag) : R2 := fun x y H Q => ∃ l b xs zs, x = .ref l ∧ y = .ref b ∧ SqL K H l xs ∧ SqL K H b zs ∧ xs.length + zs.length ≤ sizeLine ∧ ∀ p, H p = none → Q (.ref p) (upd H p (.lst (xs ++ zs)))
theorem op_catS {X : Cx} : OpR X (binaryOp .Add) (rCatS X.K) := by
  intro pins s σ H x y v u Q I rx ry h
  obtain ⟨l, b, xs, zs, rfl, rfl, hH, hB, hz, q⟩ := h
  cases rx
  cases ry
  obtain ⟨its, r, ⟨⟨c1, d1, dt1, sl1⟩, n, e, hc, hd, ht⟩, z1⟩ := I.list hH
  obtain ⟨its2, r2, ⟨⟨c2, d2, dt2, sl2⟩, n2, e2, hc2, hd2, ht2⟩, z2⟩ := I.list hB
  simp only at hc hd ht hc2 hd2 ht2
  subst hc hd ht hc2 hd2 ht2
  have l1 := r.length
  have l2 := r2.length
  refine concat_meets ⟨_, e, rfl⟩ ⟨_, e2, rfl⟩ noFill_list_add seq_list_add PySem.F.slot_list_add PySem.F.entry_list_add (PySem.F.args_list_add_2 _ _) (list_addW l b its.toArray its2.toArray n n2 none none sl1 sl2 (by simp; omega)) ⟨e, e2, ?_⟩
  have ea : its.toArray ++ its2.toArray = (its ++ its2).toArray := by simp
  rw [ea]
  exact ⟨.ref _, _, I.lnew (t' := s.toks) (r.append r2) (by rw [List.length_append]; omega), rfl, q _ I.fresh⟩
/-! ### the pieces on the heap -/
/-- the list at q holds the lists at as, which hold ps -/
structure PL (H : Hp) (q : Addr) (as : List Addr) (ps : List (List UInt8)) : Prop where
  lq : H q = some (.lst (as.map V.ref))
  len : as.length = ps.length
  at_ : ∀ x p, (x, p) ∈ as.zip ps → H x = some (.lst (ib p))
structure PcInv (H H' : Hp) (b q c : Addr) (bs : List UInt8) (st : List (List UInt8) × List UInt8) (as : List Addr) : Prop where
  same : Same H H'
  hq : H q = none
  hc : H c = none
  has : ∀ x ∈ as, H x = none
  lb : H' b = some (.lst (ib bs))
  pl : PL H' q as st.1
  lc : H' c = some (.lst (ib st.2))
  ncq : c ≠ q
  nbq : b ≠ q
  nbc : b ≠ c
  ncs : c ∉ as
  nqs : q ∉ as
  nbs : b ∉ as
theorem PL.same {H H' : Hp} {q : Addr} {as : List Addr} {ps : List (List UInt8)} (h : PL H q as ps) (s : Same H H') : PL H' q as ps := ⟨s _ _ h.lq, h.len, fun x p m => s _ _ (h.at_ x p m)⟩
theorem PcInv.grow {H H' H'' : Hp} {b q c : Addr} {bs : List UInt8} {st : List (List UInt8) × List UInt8} {as : List Addr} (h : PcInv H H' b q c bs st as) (s : Same H' H'') : PcInv H H'' b q c bs st as :=
  ⟨h.same.trans s, h.hq, h.hc, h.has, s _ _ h.lb, h.pl.same s, s _ _ h.lc, h.ncq, h.nbq, h.nbc, h.ncs, h.nqs, h.nbs⟩
theorem ib_snoc (p : List UInt8) (b : UInt8) : ib p ++ [V.int (b.toNat : Int)] = ib (p ++ [b]) := by simp [ib]
theorem PcInv.byte {H H' : Hp} {b q c : Addr} {bs : List UInt8} {st : List (List UInt8) × List UInt8} {as : List Addr} (h : PcInv H H' b q c bs st as) (v : UInt8) :
    PcInv H (upd H' c (.lst (ib st.2 ++ [V.int (v.toNat : Int)]))) b q c bs (st.1, st.2 ++ [v]) as := by
  have keep : ∀ x o, H' x = some o → x ≠ c → upd H' c (.lst (ib st.2 ++ [V.int (v.toNat : Int)])) x = some o := fun x o e n => by rw [upd_ne n]; exact e
  refine ⟨fun x o e => keep x o (h.same x o e) (ne_of_none e h.hc), h.hq, h.hc, h.has, keep _ _ h.lb h.nbc, ⟨keep _ _ h.pl.lq h.ncq.symm, h.pl.len, fun x p m => keep _ _ (h.pl.at_ x p m) (fun z => h.ncs (by rw [← z]; exact (List.of_mem_zip m).1))⟩, ?_, h.ncq, h.nbq, h.nbc, h.ncs, h.nqs, h.nbs⟩
  rw [upd_same, ib_snoc]
theorem zip_snoc {α β : Type} {as : List α} {ps : List β} {x : α} {p : β} (h : as.length = ps.length) : (as ++ [x]).zip (ps ++ [p]) = as.zip ps ++ [(x, p)] := by
  rw [List.zip_append h]
  rfl
/-- a list at m, tracked, unlike all others, goes to the end -/
theorem PL.push {H : Hp} {q m : Addr} {as : List Addr} {ps : List (List UInt8)} {p : List UInt8} (h : PL H q as ps) (hm : H m = some (.lst (ib p))) (hmq : m ≠ q) (nqs : q ∉ as) : PL (upd H q (.lst (as.map V.ref ++ [V.ref m]))) q (as ++ [m]) (ps ++ [p]) := by
  refine ⟨by rw [upd_same, List.map_append]; rfl, by simp [h.len], fun x p' hx => ?_⟩
  rw [zip_snoc h.len] at hx
  rcases List.mem_append.mp hx with hx | hx
  · rw [upd_ne (fun z => nqs (by rw [← z]; exact (List.of_mem_zip hx).1))]
    exact h.at_ x p' hx
  · rw [List.mem_singleton] at hx
    cases hx
    rw [upd_ne hmq]
    exact hm
/-- the piece goes to the pieces, another begins -/
theorem PcInv.shut {H H' : Hp} {b q c c' : Addr} {bs : List UInt8} {st : List (List UInt8) × List UInt8} {as : List Addr} (h : PcInv H H' b q c bs st as) (hc' : upd H' q (.lst (as.map V.ref ++ [V.ref c])) c' = none) :
    PcInv H (upd (upd H' q (.lst (as.map V.ref ++ [V.ref c]))) c' (.lst [])) b q c' bs (st.1 ++ [st.2], []) (as ++ [c]) := by
  have keep : ∀ x o, H' x = some o → x ≠ q → upd H' q (.lst (as.map V.ref ++ [V.ref c])) x = some o := fun x o e n => by rw [upd_ne n]; exact e
  have p1 := h.pl.push h.lc h.ncq h.nqs
  have s1 : Same H (upd H' q (.lst (as.map V.ref ++ [V.ref c]))) := fun x o e => keep x o (h.same x o e) (ne_of_none e h.hq)
  have nc : ∀ {x o}, upd H' q (.lst (as.map V.ref ++ [V.ref c])) x = some o → x ≠ c' := fun e => ne_of_none e hc'
  have g := Same.new (o := .lst []) hc'
  refine ⟨s1.trans g, h.hq, s1.free hc', fun x hx => ?_, g _ _ (keep _ _ h.lb h.nbq), p1.same g, upd_same, (nc upd_same).symm, h.nbq, nc (keep _ _ h.lb h.nbq), fun hm => ?_, fun hm => ?_, fun hm => ?_⟩
  · rcases List.mem_append.mp hx with hx | hx
    · exact h.has x hx
    · rw [List.mem_singleton] at hx; rw [hx]; exact h.hc
  · rcases List.mem_append.mp hm with hm | hm
    · obtain ⟨j, hj, e⟩ := List.getElem_of_mem hm
      have hz : (c', st.1[j]'(by rw [← h.pl.len]; exact hj)) ∈ as.zip st.1 := by
        rw [List.mem_iff_getElem]
        exact ⟨j, by rw [List.length_zip, ← h.pl.len]; simpa using hj, by simp [e]⟩
      exact nc (keep _ _ (h.pl.at_ _ _ hz) (fun z => h.nqs (by rw [← z]; exact hm))) rfl
    · rw [List.mem_singleton] at hm
      exact nc (keep _ _ h.lc h.ncq) hm.symm
  · rcases List.mem_append.mp hm with hm | hm
    · exact h.nqs hm
    · rw [List.mem_singleton] at hm; exact h.ncq hm.symm
  · rcases List.mem_append.mp hm with hm | hm
    · exact h.nbs hm
    · rw [List.mem_singleton] at hm; exact h.nbc hm
/-- a mark goes to the pieces -/
theorem PcInv.mark {H H' : Hp} {b q c m : Addr} {bs : List UInt8} {st : List (List UInt8) × List UInt8} {as : List Addr} (h : PcInv H H' b q c bs st as) (v : UInt8) (hm : H' m = none) :
    PcInv H (upd (upd H' m (.lst [V.int (v.toNat : Int)])) q (.lst (as.map V.ref ++ [V.ref m]))) b q c bs (st.1 ++ [[v]], st.2) (as ++ [m]) := by
  have h1 := h.grow (Same.new (o := .lst [V.int (v.toNat : Int)]) hm)
  have nm : ∀ {x o}, H' x = some o → x ≠ m := fun e => ne_of_none e hm
  have p1 := h1.pl.push (m := m) (p := [v]) (by rw [upd_same]; rfl) (nm h.pl.lq).symm h.nqs
  have keep : ∀ x o, upd H' m (.lst [V.int (v.toNat : Int)]) x = some o → x ≠ q → upd (upd H' m (.lst [V.int (v.toNat : Int)])) q (.lst (as.map V.ref ++ [V.ref m])) x = some o := fun x o e n => by rw [upd_ne n]; exact e
  refine ⟨fun x o e => keep x o (h1.same x o e) (ne_of_none e h.hq), h.hq, h.hc, fun x hx => ?_, keep _ _ h1.lb h.nbq, p1, keep _ _ h1.lc h.ncq, h.ncq, h.nbq, h.nbc, fun z => ?_, fun z => ?_, fun z => ?_⟩
  · rcases List.mem_append.mp hx with hx | hx
    · exact h.has x hx
    · rw [List.mem_singleton] at hx; rw [hx]; exact h.same.free hm
  · rcases List.mem_append.mp z with z | z
    · exact h.ncs z
    · rw [List.mem_singleton] at z; exact nm h.lc z
  · rcases List.mem_append.mp z with z | z
    · exact h.nqs z
    · rw [List.mem_singleton] at z; exact nm h.pl.lq z
  · rcases List.mem_append.mp z with z | z
    · exact h.nbs z
    · rw [List.mem_singleton] at z; exact nm h.lb z
theorem in_blank (v : UInt8) : inV (V.int (v.toNat : Int)) [V.int 32, V.int 9] = Sg06.blank v := by
  have e : ∀ k : UInt8, ((k.toNat : Int) == (v.toNat : Int)) = (v == k) := by
    intro k
    rw [Bool.eq_iff_iff]
    simp only [beq_iff_eq, Int.ofNat_inj, UInt8.toNat_inj]
    exact eq_comm
  have h1 := e 32
  have h2 := e 9
  show (((32 : Int) == (v.toNat : Int)) || (((9 : Int) == (v.toNat : Int)) || false)) = _
  rw [show ((32 : Int) == (v.toNat : Int)) = (v == 32) from h1, show ((9 : Int) == (v.toNat : Int)) = (v == 9) from h2]
  simp [Sg06.blank]
theorem in_mark (v : UInt8) : inV (V.int (v.toNat : Int)) [V.int 40, V.int 41, V.int 44] = En.mark v := by
  have e : ∀ k : UInt8, ((k.toNat : Int) == (v.toNat : Int)) = (v == k) := by
    intro k
    rw [Bool.eq_iff_iff]
    simp only [beq_iff_eq, Int.ofNat_inj, UInt8.toNat_inj]
    exact eq_comm
  show (((40 : Int) == (v.toNat : Int)) || (((41 : Int) == (v.toNat : Int)) || (((44 : Int) == (v.toNat : Int)) || false))) = _
  rw [show ((40 : Int) == (v.toNat : Int)) = (v == 40) from e 40, show ((41 : Int) == (v.toNat : Int)) = (v == 41) from e 41, show ((44 : Int) == (v.toNat : Int)) = (v == 44) from e 44]
  simp [En.mark, Bool.or_assoc]
/-! ### the body's statements -/
theorem step_split {st : List (List UInt8) × List UInt8} {v : UInt8} {ap : Bool} (h : (!ap) = inner v) :
    (if En.mark v = true then ((if (!ap) = true then (st.1, st.2 ++ [v]) else if 0 < st.2.length then (st.1 ++ [st.2], []) else st).1 ++ [[v]], (if (!ap) = true then (st.1, st.2 ++ [v]) else if 0 < st.2.length then (st.1 ++ [st.2], []) else st).2)
      else (if (!ap) = true then (st.1, st.2 ++ [v]) else if 0 < st.2.length then (st.1 ++ [st.2], []) else st)) = stepB st v := by
  rw [h]
  rfl
theorem step_len (st : List (List UInt8) × List UInt8) (v : UInt8) : (stepB st v).2.length ≤ st.2.length + 1 := by
  unfold stepB
  dsimp only
  split <;> split <;> (try split) <;> simp
theorem mark_stmt {K : PySem.W.Frag} {D : Ends} {a b q c aM : Addr} {v : UInt8} {x4 : Option V} {H H2 : Hp} {bs : List UInt8} {st : List (List UInt8) × List UInt8} {as : List Addr} (h : PcInv H H2 b q c bs st as) (hn : as.length ≤ 999) (tM : tupV K aM = some [.int 40, .int 41, .int 44])
    (fin : ∀ H3 as3, PcInv H H3 b q c bs (if En.mark v = true then (st.1 ++ [[v]], st.2) else st) as3 → as3.length ≤ as.length + 1 → D.nx [some (.ref a), some (.ref q), some (.ref c), some (.int (v.toNat : Int)), x4] H3) :
    (tIfS (tTest (tOp (rIn K false) (tVar 3) (tC (.ref aM)))) (tDrop (tBM K "list" rAppend (tVar 1) (tCons (tLst (tCons (tVar 3) tNil)) tNil))) tNext) D [some (.ref a), some (.ref q), some (.ref c), some (.int (v.toNat : Int)), x4] H2 := by
  refine ⟨_, rfl, aM, _, rfl, .inr (tupV_sq tM (by show 3 ≤ sizeLine; decide)), rfl, rfl, _, rfl, ?_⟩
  show (if inV (V.int (v.toNat : Int)) [V.int 40, V.int 41, V.int 44] = true then _ else _)
  rw [in_mark]
  by_cases hm : En.mark v = true
  · rw [if_pos hm]
    refine ⟨_, rfl, .inl ⟨rfl, _, SqL.of h.pl.lq⟩, _, rfl, (by show 1 ≤ sizeLine; decide), fun m hm2 => ⟨q, _, _, rfl, rfl, (by rw [upd_ne (ne_of_none h.pl.lq hm2)]; exact h.pl.lq), small1000 (by simp; omega), ?_⟩⟩
    have g := h.mark v hm2
    refine fin _ (as ++ [m]) ?_ (by simp)
    rw [if_pos hm]
    exact g
  · rw [if_neg hm]
    refine fin H2 as ?_ (Nat.le_succ _)
    rw [if_neg hm]
    exact h
theorem cut_stmt {K : PySem.W.Frag} {D : Ends} {a b q c : Addr} {v : UInt8} {ap : Bool} {H H2 : Hp} {bs : List UInt8} {st : List (List UInt8) × List UInt8} {as : List Addr} (h : PcInv H H2 b q c bs st as) (hn : as.length ≤ 999) (hn2 : st.2.length ≤ 999)
    (fin : ∀ H3 c3 as3, PcInv H H3 b q c3 bs (if (!ap) = true then (st.1, st.2 ++ [v]) else if 0 < st.2.length then (st.1 ++ [st.2], []) else st) as3 → as3.length ≤ as.length + 1 → D.nx [some (.ref a), some (.ref q), some (.ref c3), some (.int (v.toNat : Int)), some (.bl ap)] H3) :
    (tIfS (tNot (tB (tVar 4))) (tDrop (tBM K "list" rAppend (tVar 2) (tCons (tVar 3) tNil)))
      (tIfS (tTest (tOp (rI0 fun i j => V.bl (decide (j < i))) (tCB (fun xs H Q => ∃ p ys, xs = [.ref p] ∧ (SqL K H p ys ∨ SqT K H p ys) ∧ Q (.int ys.length) H) (tCons (tVar 2) tNil)) (tC (.int 0))))
        (tSeq (tDrop (tBM K "list" rAppend (tVar 1) (tCons (tVar 2) tNil))) (tAsg (tLst tNil) (gName 2))) tNext)) D [some (.ref a), some (.ref q), some (.ref c), some (.int (v.toNat : Int)), some (.bl ap)] H2 := by
  refine ⟨_, rfl, ap, rfl, ?_⟩
  have e : (ib st.2).length = st.2.length := by simp [ib]
  dsimp only
  by_cases hp : (!ap) = true
  · rw [if_pos hp]
    rw [if_pos hp] at fin
    refine ⟨_, rfl, .inl ⟨rfl, _, SqL.of h.lc⟩, _, rfl, c, _, _, rfl, rfl, h.lc, small1000 (by rw [e]; omega), ?_⟩
    exact fin _ c as (h.byte v) (Nat.le_succ _)
  · rw [if_neg hp]
    rw [if_neg hp] at fin
    refine ⟨_, rfl, c, _, rfl, .inl (SqL.of h.lc), _, _, rfl, rfl, _, rfl, ?_⟩
    dsimp only
    rw [e]
    by_cases h0 : 0 < st.2.length
    · rw [if_pos (by rw [decide_eq_true_eq]; omega)]
      rw [if_pos h0] at fin
      refine ⟨_, rfl, .inl ⟨rfl, _, SqL.of h.pl.lq⟩, _, rfl, q, _, _, rfl, rfl, h.pl.lq, small1000 (by simp; omega), Nat.zero_le _, fun c' hc' => ?_⟩
      exact fin _ c' (as ++ [c]) (h.shut hc') (by simp)
    · rw [if_neg (by rw [decide_eq_true_eq]; omega)]
      rw [if_neg h0] at fin
      exact fin H2 c as h (Nat.le_succ _)
section
variable {P : Program} {w : World} {K : PySem.W.Frag} {mg : Str → Option Value} {base : Heap}
def spPieces (K : PySem.W.Frag) : Sp := fun vs H Q _ => ∃ (a : Addr) (bs : List UInt8), vs = [.ref a] ∧ SqL K H a (ib bs) ∧ bs.length ≤ 300 ∧ ∀ (H' : Hp) (q : Addr) (as : List Addr), Same H H' → PL H' q as (piecesM bs) → Q (.ref q) H'
theorem scPieces : FnScope ["line", "pieces", "piece", "byte", "apart"] ["line"] (defScope sPieces) := ⟨rfl, rfl, rfl, by decide +kernel, rfl, by decide +kernel, by decide +kernel⟩
theorem ok_pieces {f aM : Addr} {fd : FuncData} {t1 t2 : Tok} (F : Fun K "pieces_of" "pieces_of" sPieces f fd) (hlen : mg "len" = none) (hB : mg "BLANK" = some (.int 32 t1)) (hT : mg "TAB" = some (.int 9 t2)) (hM : mg "MARKS" = some (.ref aM)) (tM : tupV K aM = some [.int 40, .int 41, .int 44]) :
    FnOk P w K mg base CX0 1 f fd ["line"] (spPieces K) := by
  refine F.ok scPieces (fun vs H Q E h => ?_) (fun cdv A outer s H vs Q E hr h => ?_)
  · obtain ⟨a, p, rfl, _⟩ := h
    rfl
  · obtain ⟨a, bs, rfl, hS, hl, k⟩ := h
    refine ⟨_, pss_cons (ps_set (i := 1) scPieces.nd rfl (Or.inl rfl) (pe_lst pa_nil))
      (pss_cons (ps_set (i := 2) scPieces.nd rfl (Or.inl rfl) (pe_lst pa_nil))
      (pss_cons (ps_for PassesOwn.never rfl (pi_list (pe_op op_catS (pv 0) (pe_lst (pa_cons (pe_glob (by rfl) hB (v := .int 32) ⟨_, rfl⟩) pa_nil)))) (pg_name (i := 3) scPieces.nd rfl (Or.inl rfl))
        (pss_cons (ps_set (i := 4) scPieces.nd rfl (Or.inl rfl) (pe_or (pe_cmpR op_in_seq (pv 3) (pe_tup (pa_cons (pe_glob (by rfl) hB (v := .int 32) ⟨_, rfl⟩) (pa_cons (pe_glob (by rfl) hT (v := .int 9) ⟨_, rfl⟩) pa_nil))) rfl) (pe_one (pe_cmpR op_in_seq (pv 3) (pe_glob (by rfl) hM (v := .ref aM) rfl) rfl))))
        (pss_cons (ps_if (pt_not (pt_val (pv 4))) (pss_one (ps_expr (pe_bm PySem.F.plainAttrs_list PySem.F.slot_list_append PySem.F.type_list_append mt_append (pv 2) (pa_cons (pv 3) pa_nil))))
          (pss_one (ps_if (pt_cmpR op_gt (pe_callB call_len_seq (by rfl) hlen PySem.boot_len (pa_cons (pv 2) pa_nil)) pe_int (nomark _))
            (pss_cons (ps_expr (pe_bm PySem.F.plainAttrs_list PySem.F.slot_list_append PySem.F.type_list_append mt_append (pv 1) (pa_cons (pv 2) pa_nil))) (pss_one (ps_set (i := 2) scPieces.nd rfl (Or.inl rfl) (pe_lst pa_nil)))) pss_nil)))
        (pss_one (ps_if (pt_cmpR op_in_seq (pv 3) (pe_glob (by rfl) hM (v := .ref aM) rfl) rfl)
          (pss_one (ps_expr (pe_bm PySem.F.plainAttrs_list PySem.F.slot_list_append PySem.F.type_list_append mt_append (pv 1) (pa_cons (pe_lst (pa_cons (pv 3) pa_nil)) pa_nil)))) pss_nil)))))
      (pss_one (ps_ret (pv 1))))), ?_⟩
    refine ⟨Nat.zero_le _, fun q hq => ⟨Nat.zero_le _, fun c hc => ?_⟩⟩
    have hcq : c ≠ q := fun z => by rw [z, upd_same] at hc; cases hc
    have hc0 : H c = none := (Same.new hq).free hc
    have s2 : Same H (upd (upd H q (.lst [])) c (.lst [])) := (Same.new hq).trans (Same.new hc)
    refine ⟨_, rfl, (by show 1 ≤ sizeLine; decide), fun m hm => ⟨a, m, ib bs, [V.int 32], rfl, rfl, (s2.trans (Same.new hm)).seq hS, SqL.of upd_same, ?_, fun b hb => ⟨b, rfl, ⟨_, SqL.of upd_same⟩, ?_⟩⟩⟩
    · have e : (ib bs).length = bs.length := by simp [ib]
      rw [e]
      exact Nat.le_of_lt (small1000 (by simp; omega))
    have eb : ib bs ++ [V.int 32] = ib (bs ++ [32]) := ib_snoc bs 32
    have g3 : Same (upd (upd H q (.lst [])) c (.lst [])) (upd (upd (upd (upd H q (.lst [])) c (.lst [])) m (.lst [V.int 32])) b (.lst (ib bs ++ [V.int 32]))) := (Same.new hm).trans (Same.new hb)
    have lq : upd (upd H q (.lst [])) c (.lst []) q = some (.lst []) := by rw [upd_ne hcq.symm]; exact upd_same
    have i0 : PcInv H (upd (upd (upd (upd H q (.lst [])) c (.lst [])) m (.lst [V.int 32])) b (.lst (ib bs ++ [V.int 32]))) b q c (bs ++ [32]) ([], []) [] := by
      refine ⟨s2.trans g3, hq, hc0, (fun x hx => by cases hx), by rw [upd_same, eb], ⟨g3 _ _ lq, rfl, fun x p hx => by simp at hx⟩, g3 _ _ upd_same, hcq, ?_, ?_, by simp, by simp, by simp⟩
      · exact (ne_of_none ((Same.new hm) _ _ lq) hb).symm
      · exact (ne_of_none ((Same.new hm) _ _ upd_same) hb).symm
    refine for_list (K := K) (a := b) (xs := ib (bs ++ [32])) (fun (i : Nat) (σ : L2.St) (H' : Hp) => ∃ (c : Addr) (as : List Addr) (x3 x4 : Option V), σ = [some (.ref a), some (.ref q), some (.ref c), x3, x4] ∧
      PcInv H H' b q c (bs ++ [32]) (((bs ++ [32]).take i).foldl stepB ([], [])) as ∧ as.length ≤ 2 * i ∧ (((bs ++ [32]).take i).foldl stepB ([], [])).2.length ≤ i) ⟨c, [], none, none, rfl, i0, Nat.zero_le _, Nat.zero_le _⟩ (fun i σ H' _ ⟨_, _, _, _, _, h, _⟩ => SqL.of h.lb) ?_ ?_
    · rintro i y σ H' hi ⟨c, as, x3, x4, rfl, h, n1, n2⟩
      obtain ⟨v, hv, rfl⟩ := ib_get hi
      have hi2 : i < (bs ++ [32]).length := (List.getElem?_eq_some_iff.mp hv).1
      rw [take_snoc hv, List.foldl_append]
      generalize ((bs ++ [32]).take i).foldl stepB ([], []) = st at *
      simp only [List.foldl_cons, List.foldl_nil]
      have hle : i ≤ 300 := by simp at hi2; omega
      refine ⟨_, rfl, (by show 2 ≤ sizeLine; decide), fun p hp => ⟨p, _, rfl, .inr (SqT.of upd_same), rfl, rfl, _, rfl, ?_⟩⟩
      have h1 := h.grow (Same.new (o := .tup [V.int 32, V.int 9]) hp)
      show (if inV (V.int (v.toNat : Int)) [V.int 32, V.int 9] = true then _ else _)
      rw [in_blank]
      by_cases hbl : Sg06.blank v = true
      · rw [if_pos hbl]
        refine cut_stmt (K := K) (ap := true) h1 (by omega) (by omega) fun H3 c3 as3 g g2 => ?_
        refine mark_stmt (K := K) g (by omega) tM fun H4 as4 g3 g4 => ?_
        refine ⟨c3, as4, _, _, rfl, ?_, by omega, ?_⟩
        · rw [step_split (ap := true) (by simp [inner, hbl])] at g3
          exact g3
        · have := step_len st v
          omega
      · rw [if_neg hbl]
        refine ⟨_, rfl, aM, _, rfl, .inr (tupV_sq tM (by show 3 ≤ sizeLine; decide)), rfl, rfl, ?_⟩
        simp only [Bool.false_eq_true, if_false, in_mark]
        refine cut_stmt (K := K) (ap := En.mark v) h1 (by omega) (by omega) fun H3 c3 as3 g g2 => ?_
        refine mark_stmt (K := K) g (by omega) tM fun H4 as4 g3 g4 => ?_
        refine ⟨c3, as4, _, _, rfl, ?_, by omega, ?_⟩
        · rw [step_split (ap := En.mark v) (by simp [inner, hbl])] at g3
          exact g3
        · have := step_len st v
          omega
    · rintro σ H' ⟨c, as, x3, x4, rfl, h, _⟩
      have e : (ib (bs ++ [32])).length = (bs ++ [32]).length := by simp [ib]
      rw [e, List.take_length] at h
      refine ⟨_, rfl, k H' q as h.same ?_⟩
      exact h.pl
end
end Pr
end

section
set_option Elab.async false
set_option linter.all false
set_option maxRecDepth 100000
set_option maxHeartbeats 400000
namespace Pr
open PySem PySem.Spec PyProof.Rows L2
open Sg06 (rowOf ascii)
open En (rowM)
theorem codes_name : ∀ k, k < 45 → codes (Str.ofString (rowOf k).name) = ib (ascii (rowOf k).name) ∧ (Str.ofString (rowOf k).name).cps.size ≤ 1000 := by decide +kernel
theorem dpAll_zip {K : PySem.W.Frag} {H : Hp} : ∀ {as : List Addr} {ps : List (List UInt8)}, as.length = ps.length → (∀ x p, (x, p) ∈ as.zip ps → H x = some (.lst (ib p))) → DpAll K H (as.map V.ref) (ps.map dB)
  | [], [], _, _ => .nil
  | [], _ :: _, h, _ => by simp at h
  | _ :: _, [], h, _ => by simp at h
  | a :: as, p :: ps, h, f => .cons (dp_ib (SqL.of (f a p (by simp)))) (dpAll_zip (by simpa using h) fun x q m => f x q (by simp [m]))
theorem PL.dp {K : PySem.W.Frag} {H : Hp} {q : Addr} {as : List Addr} {ps : List (List UInt8)} (h : PL H q as ps) : Dp K H (.ref q) (dL ps) := .lst (SqL.of h.lq) (dpAll_zip h.len h.at_)
section
variable {P : Program} {w : World} {K : PySem.W.Frag} {mg : Str → Option Value} {base : Heap}
def spRow (K : PySem.W.Frag) (aR : Addr) : Sp := fun vs H Q _ => ∃ (q : Addr) (as : List Addr) (ps : List (List UInt8)), vs = [.ref q] ∧ PL H q as ps ∧ ∀ H' : Hp, Same H H' → Q (rowVal K aR (rowM ps)) H'
theorem scRow : FnScope ["pieces", "row"] ["pieces"] (defScope sRow) := ⟨rfl, rfl, rfl, by decide +kernel, rfl, by decide +kernel, by decide +kernel⟩
theorem ok_row {f fs aR : Addr} {fd sd : FuncData} {t : Tok} (F : Fun K "row_named" "row_named" sRow f fd) (S : Ca P w K mg base "spelled" ["text"] 1 spSpelled fs sd) (hR : mg "ROWS" = some (.ref aR)) (R : Rows K aR) (hN : mg "NAME" = some (.int 0 t)) :
    FnOk P w K mg base CX0 2 f fd ["pieces"] (spRow K aR) := by
  refine F.ok scRow (fun vs H Q E h => ?_) (fun cdv A outer s H vs Q E hr h => ?_)
  · obtain ⟨q, as, ps, rfl, _⟩ := h
    rfl
  · obtain ⟨q, as, ps, rfl, hP, k⟩ := h
    refine ⟨_, pss_cons (ps_for PassesOwn.never rfl (pi_tup (pe_glob (by rfl) hR (v := .ref aR) rfl)) (pg_name (i := 1) scRow.nd rfl (Or.inl rfl))
      (pss_one (ps_if (pt_cmpR (op_eqD hr.units) (pv 0) (pe_lst (pa_cons (pe_call S.ok hr rfl S.at_ S.kp S.b .nil pass0 (pa_cons (pe_ix ix_tup (pv 1) (pe_glob (by rfl) hN (v := .int 0) ⟨_, rfl⟩) (fun _ _ => rfl)) pa_nil)) pa_nil)) (nomark _)) (pss_one (ps_ret (pv 1))) pss_nil)))
      (pss_one (ps_ret pe_non)), ?_⟩
    refine ⟨aR, rfl, ⟨_, tupV_sq R.all (by simp; decide)⟩, for_tup (K := K) (a := aR) (xs := (List.range 45).map fun i => V.ref (itA K aR i)) (fun (i : Nat) (σ : L2.St) (H' : Hp) => Same H H' ∧ ∃ x : Option V, σ = [some (.ref q), x] ∧ ∀ j, j < i → ¬ ps = [ascii (rowOf j).name])
      ⟨fun _ _ e => e, none, rfl, fun j hj => absurd hj (Nat.not_lt_zero _)⟩ (fun _ _ _ _ _ => tupV_sq R.all (by simp; decide)) ?_ ?_⟩
    · rintro i y σ H' hi ⟨s1, x, rfl, hno⟩
      have hi2 : i < 45 := by
        have := (List.getElem?_eq_some_iff.mp hi).1
        simpa using this
      obtain rfl : y = V.ref (itA K aR i) := by
        rw [List.getElem?_map, List.getElem?_range hi2] at hi
        exact (Option.some.inj hi).symm
      obtain ⟨ec, el⟩ := codes_name i hi2
      refine ⟨_, rfl, _, rfl, itA K aR i, _, 0, _, rfl, rfl, R.sq hi2, atI_nat (j := 0) rfl, _, rfl, el, fun H2 r s2 hr2 hr' => ⟨(by show 1 ≤ sizeLine; decide), fun l hl => ?_⟩⟩
      have s3 := (s1.trans s2).trans (Same.new (o := .lst [V.ref r]) hl)
      refine ⟨_, _, (hP.same s3).dp, .lst (SqL.of upd_same) (.cons (dp_ib (p := ascii (rowOf i).name) (SqL.of (by rw [upd_ne (ne_of_none hr' hl), hr', ec]))) .nil), shaped_dL _, shaped_dL [ascii (rowOf i).name], _, rfl, ?_⟩
      show (if PyData.eqv (dL ps) (dL [ascii (rowOf i).name]) = true then _ else _)
      rw [eqv_dL]
      by_cases he : ps = [ascii (rowOf i).name]
      · rw [if_pos (decide_eq_true he)]
        have e : rowM ps = some i := En.find_range hi2 (by simp [he]) (fun j hj => by simp only [beq_eq_false_iff_ne]; exact hno j hj)
        have k' := k _ s3
        rw [e] at k'
        exact ⟨_, rfl, k'⟩
      · rw [if_neg (by rw [decide_eq_true_eq]; exact he)]
        refine ⟨s3, _, rfl, fun j hj => ?_⟩
        rcases Nat.lt_succ_iff_lt_or_eq.mp hj with g | g
        · exact hno j g
        · rw [g]; exact he
    · rintro σ H' ⟨s1, x, rfl, hno⟩
      have e : rowM ps = none := by
        unfold rowM
        rw [List.find?_eq_none]
        intro j hj
        simp only [beq_iff_eq]
        exact hno j (List.mem_range.mp hj)
      have k' := k H' s1
      rw [e] at k'
      exact k'
end
end Pr
end

section
set_option Elab.async false
set_option linter.all false
set_option maxRecDepth 100000
set_option maxHeartbeats 400000
namespace Pr
open PySem PySem.Spec PyProof.Rows L2
open En (opsM runM Ops isOp readM shape numberM placeM)
theorem runM_append : ∀ (cs : List Nat) (ps : List (List UInt8)) (cs2 : List Nat) (ps2 : List (List UInt8)) (o : Ops), cs.length = ps.length → runM (cs ++ cs2) (ps ++ ps2) o = (runM cs ps o).bind (runM cs2 ps2)
  | [], [], cs2, ps2, o, _ => rfl
  | [], _ :: _, _, _, _, h => by simp at h
  | _ :: _, [], _, _, _, h => by simp at h
  | c :: cs, p :: ps, cs2, ps2, o, h => by
    rw [List.cons_append, List.cons_append, runM, runM]
    by_cases ho : isOp c = true
    · rw [if_pos ho, if_pos ho]
      cases readM c p with
      | none => rfl
      | some v => exact runM_append cs ps cs2 ps2 _ (by simpa using h)
    · rw [if_neg ho, if_neg ho]
      by_cases hp : p = [UInt8.ofNat c]
      · rw [if_pos hp, if_pos hp]
        exact runM_append cs ps cs2 ps2 _ (by simpa using h)
      · rw [if_neg hp, if_neg hp]
        rfl
/-! ### the loop's body -/
theorem runM_one (c : Nat) (p : List UInt8) (o : Ops) : runM [c] [p] o = if isOp c = true then (readM c p).map (o.put c) else if p = [UInt8.ofNat c] then some o else none := by
  unfold runM
  split
  · cases readM c p <;> rfl
  · split <;> rfl
theorem codes_sign {c : Nat} (h : c < 256) : codes (⟨#[c]⟩ : Str) = ib [UInt8.ofNat c] := by
  unfold codes ib
  simp
  omega
theorem body_ops {K : PySem.W.Frag} {D : Ends} {kx sx : Str} {q d x : Addr} {c : Nat} {p : List UInt8} {o : Ops} {x6 : Option V} {H2 : Hp} (hd : H2 d = some (.dK (opsD o))) (hx : H2 x = some (.lst (ib p))) (hp : p ≠ [])
    (hc : c = 100 ∨ c = 97 ∨ c = 98 ∨ c = 110 ∨ c = 44 ∨ c = 40 ∨ c = 41)
    (f1 : runM [c] [p] o = none → ∀ H3, Same H2 H3 → D.rt .non H3)
    (f2 : ∀ o', runM [c] [p] o = some o' → ∀ H3 y6, Moved d H2 H3 → H3 d = some (.dK (opsD o')) → D.nx [some (.str kx), some (.ref q), some (.str sx), some (.ref d), some (.str ⟨#[c]⟩), some (.ref x), y6] H3) :
    (tIfS (tB (tDIn (tVar 4) (tVar 3)))
      (tSeq (tAsg (tIf (tTest (tOp rEq (tVar 4) (tC (.str (Str.ofString "n"))))) (tCall (spNumber K) [] E0 (tCons (tVar 5) tNil)) (tCall (spPlace K) [] E0 (tCons (tVar 5) tNil))) (gName 6))
        (tSeq (tIfS (tB (tIsN (tVar 6))) (tRet (tC .non)) tNext) (sDPut (tVar 3) (tVar 4) (tVar 6))))
      (tIfS (tTest (tOp (rNeD K) (tVar 5) (tCall spSpelled [] E0 (tCons (tVar 4) tNil)))) (tRet (tC .non)) tNext)) D
      [some (.str kx), some (.ref q), some (.str sx), some (.ref d), some (.str ⟨#[c]⟩), some (.ref x), x6] H2 := by
  refine ⟨_, rfl, _, rfl, d, _, rfl, DGet.k (k := Sum.inr ⟨#[c]⟩) hd, _, rfl, ?_⟩
  dsimp only
  rw [ops_get hc]
  rw [runM_one] at f1 f2
  by_cases ho : isOp c = true
  · rw [if_pos ho]
    rw [if_pos ho] at f1 f2
    refine ⟨_, rfl, rfl, _, rfl, ?_⟩
    dsimp only
    have put : ∀ (H3 : Hp) (v : Int), Same H2 H3 → readM c p = some v → sDPut (tVar 3) (tVar 4) (tVar 6) D [some (.str kx), some (.ref q), some (.str sx), some (.ref d), some (.str ⟨#[c]⟩), some (.ref x), some (.int v)] H3 := by
      intro H3 v s3 hv
      refine ⟨_, rfl, _, rfl, _, rfl, d, _, rfl, DPut.k (k := Sum.inr ⟨#[c]⟩) (s3 _ _ hd) (by show 4 < sizeLine; decide), ?_⟩
      rw [ops_put ho]
      refine f2 (o.put c v) (by rw [hv]; rfl) _ _ (fun b u e n => by rw [upd_ne n]; exact s3 b u e) upd_same
    by_cases h110 : c = 110
    · rw [if_pos (by rw [decide_eq_true_eq, h110]; rfl)]
      refine ⟨_, rfl, x, p, rfl, SqL.of hx, hp, fun H3 s3 => ⟨_, rfl, _, rfl, ?_⟩⟩
      have hrd : readM c p = numberM p := by unfold readM; rw [if_pos h110]
      cases hn : numberM p with
      | none =>
        refine iteT ?_
        exact f1 (by rw [hrd, hn]; rfl) H3 s3
      | some v =>
        refine iteF ?_
        exact put H3 v s3 (by rw [hrd, hn])
    · rw [if_neg (by
        rw [decide_eq_true_eq]
        intro z
        have z' : (⟨#[c]⟩ : Str) = ⟨#[110]⟩ := V.str.inj z
        apply h110
        have := congrArg (fun s : Str => s.cps.toList) z'
        simpa using this)]
      refine ⟨_, rfl, x, p, rfl, SqL.of hx, fun H3 s3 => ⟨_, rfl, _, rfl, ?_⟩⟩
      have hrd : readM c p = (placeM p).map fun (n : Nat) => (n : Int) := by unfold readM; rw [if_neg h110]; cases placeM p <;> rfl
      cases hn : placeM p with
      | none =>
        refine iteT ?_
        exact f1 (by rw [hrd, hn]; rfl) H3 s3
      | some v =>
        refine iteF ?_
        exact put H3 v s3 (by rw [hrd, hn]; rfl)
  · rw [if_neg ho]
    rw [if_neg ho] at f1 f2
    have hc2 : c < 256 := by omega
    refine ⟨_, rfl, _, rfl, ⟨#[c]⟩, rfl, (by show 1 ≤ 1000; decide), fun H3 r s3 hr hr' => ?_⟩
    refine ⟨_, dB [UInt8.ofNat c], dp_ib (SqL.of (s3 _ _ hx)), dp_ib (SqL.of (by rw [hr', codes_sign hc2])), shaped_dB _, shaped_dB _, _, rfl, ?_⟩
    dsimp only
    rw [eqv_dB]
    by_cases he : p = [UInt8.ofNat c]
    · rw [if_neg (by simp [he])]
      exact f2 o (by rw [if_pos he]) H3 x6 (fun b u e _ => s3 b u e) (s3 _ _ hd)
    · rw [if_pos (by simp [he])]
      exact f1 (by rw [if_neg he]) H3 s3
end Pr
end

section
set_option Elab.async false
set_option linter.all false
set_option maxRecDepth 100000
set_option maxHeartbeats 400000
namespace Pr
open PySem PySem.Spec PyProof.Rows L2
open En (opsM runM Ops isOp readM shape numberM placeM)
/-- the def's body, read -/
abbrev tOpsBody (P : Program) (w : World) (K : PySem.W.Frag) (aK : Addr) : TS :=
  tSeq (tAsg (tOp (rIxT K) (tKGet P w K (tC (.ref aK)) (tVar 0)) (tC (.int 0))) (gName 2))
  (tSeq (tIfS (tTest (tOp rNe (tCB (fun xs H Q => ∃ p ys, xs = [.ref p] ∧ (SqL K H p ys ∨ SqT K H p ys) ∧ Q (.int ys.length) H) (tCons (tVar 1) tNil)) (tCB (fun xs H Q => ∃ z, xs = [.str z] ∧ z.length ≤ sizeLine ∧ Q (.int z.length) H) (tCons (tVar 2) tNil)))) (tRet (tC .non)) tNext)
  (tSeq (tAsg (tDisp [(tC (.str (Str.ofString "d")), tC (.int 0)), (tC (.str (Str.ofString "a")), tC (.int 0)), (tC (.str (Str.ofString "b")), tC (.int 0)), (tC (.str (Str.ofString "n")), tC (.int 0))]) (gName 3))
  (tSeq (tFor (iZs K (tCons (tVar 2) (tCons (tVar 1) tNil))) (gTup K 2 (gCons (gName 4) (gCons (gName 5) gNil)))
    (tIfS (tB (tDIn (tVar 4) (tVar 3)))
      (tSeq (tAsg (tIf (tTest (tOp rEq (tVar 4) (tC (.str (Str.ofString "n"))))) (tCall (spNumber K) [] E0 (tCons (tVar 5) tNil)) (tCall (spPlace K) [] E0 (tCons (tVar 5) tNil))) (gName 6))
        (tSeq (tIfS (tB (tIsN (tVar 6))) (tRet (tC .non)) tNext) (sDPut (tVar 3) (tVar 4) (tVar 6))))
      (tIfS (tTest (tOp (rNeD K) (tVar 5) (tCall spSpelled [] E0 (tCons (tVar 4) tNil)))) (tRet (tC .non)) tNext)))
  (tRet (tVar 3)))))
theorem zip_at {as : List Addr} {ps : List (List UInt8)} {i : Nat} {x : Addr} {p : List UInt8} (h1 : as[i]? = some x) (h2 : ps[i]? = some p) : (x, p) ∈ as.zip ps := by
  refine List.mem_of_getElem? (i := i) ?_
  rw [List.getElem?_zip_eq_some]
  exact ⟨h1, h2⟩
theorem read_ops {P : Program} {w : World} {K : PySem.W.Frag} {aK : Addr} (T : KD P w K aK) {H : Hp} {Q : VK} {kd : Sg06.Kind} {q : Addr} {as : List Addr} {ps : List (List UInt8)} (hP : PL H q as ps) (hne : ∀ p ∈ ps, p ≠ [])
    (k1 : opsM kd ps = none → ∀ H' : Hp, Same H H' → Q .non H') (k2 : ∀ o, opsM kd ps = some o → ∀ (H' : Hp) (d : Addr), Same H H' → H' d = some (.dK (opsD o)) → Q (.ref d) H') :
    tOpsBody P w K aK { nx := fun _ H' => Q .non H', rt := Q } [some (.str (kl kd)), some (.ref q), none, none, none, none, none] H := by
  obtain ⟨es, ea, el⟩ := shape_eq kd
  have esz : (shapeS kd).length = (shape kd).length := by rw [← es]; simp [Str.length]
  have epl : (as.map V.ref).length = ps.length := by rw [List.length_map, hP.len]
  refine ⟨_, rfl, aK, _, Sum.inr (kl kd), _, rfl, T.tab, rfl, kkind_get _ kd, kA K aK kd, _, 0, _, rfl, rfl, T.sq kd _, atI_nat (j := 0) rfl, ?_⟩
  refine ⟨_, rfl, q, _, rfl, .inl (SqL.of hP.lq), _, rfl, _, rfl, Nat.le_of_lt (small1000 el), rfl, _, rfl, ?_⟩
  dsimp only
  rw [epl, esz]
  by_cases hl : ps.length = (shape kd).length
  · rw [if_neg (by simp [hl])]
    intro d hd
    refine ⟨upd_same, [(Sum.inr sD, .int 0), (Sum.inr sA, .int 0), (Sum.inr sB, .int 0), (Sum.inr sN, .int 0)], rfl, by decide, ?_⟩
    rw [show mergeK [] [((Sum.inr sD : Key), V.int 0), (Sum.inr sA, .int 0), (Sum.inr sB, .int 0), (Sum.inr sN, .int 0)] = opsD ⟨0, 0, 0, 0⟩ by decide +kernel, upd_upd]
    have eo : opsM kd ps = runM (shape kd) ps ⟨0, 0, 0, 0⟩ := by unfold opsM; rw [if_neg (by simp [hl])]
    have s1 : Same H (upd H d (.dK (opsD ⟨0, 0, 0, 0⟩))) := Same.new hd
    have ez : (shapeS kd).cps.size = (as.map V.ref).length := by rw [epl, hl, ← esz]; rfl
    refine ⟨_, rfl, _, rfl, shapeS kd, q, as.map V.ref, rfl, ea, SqL.of (s1 _ _ hP.lq), for_zs (K := K) (x := shapeS kd) (b := q) (ys := as.map V.ref)
      (fun (i : Nat) (σ : L2.St) (H' : Hp) => ∃ (o : Ops) (x4 x5 x6 : Option V), σ = [some (.str (kl kd)), some (.ref q), some (.str (shapeS kd)), some (.ref d), x4, x5, x6] ∧ Same H H' ∧ H' d = some (.dK (opsD o)) ∧ runM ((shape kd).take i) (ps.take i) ⟨0, 0, 0, 0⟩ = some o)
      ez ⟨⟨0, 0, 0, 0⟩, none, none, none, rfl, s1, upd_same, rfl⟩ (fun i σ H' _ ⟨_, _, _, _, _, s2, _⟩ => SqL.of (s2 _ _ hP.lq)) ?_ ?_⟩
    · rintro i c y σ H' t hc hy ht ⟨o, x4, x5, x6, rfl, s2, hd', hrun⟩
      obtain ⟨x, hx, rfl⟩ : ∃ x, as[i]? = some x ∧ y = V.ref x := by
        rw [List.getElem?_map] at hy
        cases e : as[i]? with
        | none => rw [e] at hy; cases hy
        | some x => rw [e] at hy; exact ⟨x, rfl, (Option.some.inj hy).symm⟩
      have hi : i < ps.length := by rw [← hP.len]; exact (List.getElem?_eq_some_iff.mp hx).1
      obtain ⟨p, hp⟩ : ∃ p, ps[i]? = some p := ⟨_, List.getElem?_eq_getElem hi⟩
      have hc' : (shape kd)[i]? = some c := by rw [← es]; simpa using hc
      have g := Same.new (o := .tup [V.str ⟨#[c]⟩, V.ref x]) ht
      have len_eq : ((shape kd).take i).length = (ps.take i).length := by rw [List.length_take, List.length_take, hl]
      refine ⟨t, _, rfl, SqT.of upd_same, rfl, _, _, rfl, _, _, rfl, rfl, ?_⟩
      refine body_ops (K := K) (o := o) (p := p) (g _ _ hd') (g _ _ (s2 _ _ (hP.at_ x p (zip_at hx hp)))) (hne p (List.mem_of_getElem? hp)) (signs (kd := kd) (List.mem_of_getElem? hc')) ?_ ?_
      · intro hn H3 s3
        refine k1 ?_ H3 ((s2.trans g).trans s3)
        rw [eo, ← List.take_append_drop i (shape kd), ← List.take_append_drop i ps, runM_append _ _ _ _ _ len_eq, hrun, Option.bind_some, drop_at hc', drop_at hp,
          show c :: (shape kd).drop (i + 1) = [c] ++ (shape kd).drop (i + 1) from rfl, show p :: ps.drop (i + 1) = [p] ++ ps.drop (i + 1) from rfl, runM_append [c] [p] _ _ _ rfl, hn]
        rfl
      · intro o' ho' H3 y6 m3 hd3
        refine ⟨o', _, _, y6, rfl, fun b u e => m3 b u (g _ _ (s2 b u e)) (ne_of_none e hd), hd3, ?_⟩
        rw [take_snoc hc', take_snoc hp, runM_append _ _ _ _ _ len_eq, hrun, Option.bind_some]
        exact ho'
    · rintro σ H' ⟨o, x4, x5, x6, rfl, s2, hd', hrun⟩
      refine ⟨_, rfl, k2 o ?_ H' d s2 hd'⟩
      rw [eo]
      rw [epl, List.take_length, hl, List.take_length] at hrun
      exact hrun
  · rw [if_pos (by simp; omega)]
    refine k1 ?_ H (fun _ _ e => e)
    unfold opsM
    rw [if_pos hl]
section
variable {P : Program} {w : World} {K : PySem.W.Frag} {mg : Str → Option Value} {base : Heap}
def spOps : Sp := fun vs H Q _ => ∃ (kd : Sg06.Kind) (q : Addr) (as : List Addr) (ps : List (List UInt8)), vs = [.str (kl kd), .ref q] ∧ PL H q as ps ∧ (∀ p ∈ ps, p ≠ []) ∧
  (opsM kd ps = none → ∀ H' : Hp, Same H H' → Q .non H') ∧ ∀ o, opsM kd ps = some o → ∀ (H' : Hp) (d : Addr), Same H H' → H' d = some (.dK (opsD o)) → Q (.ref d) H'
theorem scOps : FnScope ["kind", "pieces", "shape", "operands", "sign", "piece", "value"] ["kind", "pieces"] (defScope sOps) := ⟨rfl, rfl, rfl, by decide +kernel, rfl, by decide +kernel, by decide +kernel⟩
set_option maxHeartbeats 8000000 in
theorem ok_ops {f fs fn fp aK : Addr} {fd sd nd pd : FuncData} {t1 : Tok} (F : Fun K "operands_of" "operands_of" sOps f fd) (S : Ca P w K mg base "spelled" ["text"] 1 spSpelled fs sd) (N : Ca P w K mg base "number_of" ["piece"] 3 (spNumber K) fn nd) (L : Ca P w K mg base "place_of" ["piece"] 2 (spPlace K) fp pd)
    (hlen : mg "len" = none) (hzip : mg "zip" = none) (hS : mg "KINDS" = some (.ref aK)) (T : KD P w K aK) (h1 : mg "SHAPE" = some (.int 0 t1)) : FnOk P w K mg base CX0 4 f fd ["kind", "pieces"] spOps := by
  refine F.ok scOps (fun vs H Q E h => ?_) (fun cdv A outer s H vs Q E hr h => ?_)
  · obtain ⟨kd, q, as, ps, rfl, _⟩ := h
    rfl
  · obtain ⟨kd, q, as, ps, rfl, hP, hne, k1, k2⟩ := h
    have hr1 : Room 1 _ := hr.mono (by decide)
    have hr2 : Room 2 _ := hr.mono (by decide)
    have hu := hu_of hr
    refine ⟨tOpsBody P w K aK, pss_cons (ps_set (i := 2) scOps.nd rfl (Or.inl rfl) (pe_ix ix_tup (pe_kget (pe_glob (by rfl) hS (v := .ref aK) rfl) (pv 0) (fun _ _ => rfl)) (pe_glob (by rfl) h1 (v := .int 0) ⟨_, rfl⟩) (fun _ _ => rfl)))
      (pss_cons (ps_if (pt_cmpR op_ne (pe_callB call_len_seq (by rfl) hlen PySem.boot_len (pa_cons (pv 1) pa_nil)) (pe_callB call_len_str (by rfl) hlen PySem.boot_len (pa_cons (pv 2) pa_nil)) (nomark _)) (pss_one (ps_ret pe_non)) pss_nil)
      (pss_cons (ps_set (i := 3) scOps.nd rfl (Or.inl rfl) (pe_disp (pps_cons pe_str pe_int (pps_cons pe_str pe_int (pps_cons pe_str pe_int (pps_cons pe_str pe_int pps_nil)))) rfl rfl (by simp) (by decide)))
      (pss_cons (ps_for PassesOwn.never rfl (pi_zs rfl hzip (pa_cons (pv 2) (pa_cons (pv 1) pa_nil))) (pg_tup rfl (pgs_cons (pg_name (i := 4) scOps.nd rfl (Or.inl rfl)) (pgs_cons (pg_name (i := 5) scOps.nd rfl (Or.inl rfl)) pgs_nil)))
        (pss_one (ps_if (pt_cmp (pc_din hu (pv 4) (pv 3)))
          (pss_cons (ps_set (i := 6) scOps.nd rfl (Or.inl rfl) (pe_ifExp (pt_cmpR op_eq (pv 4) pe_str (nomark _)) (pe_call N.ok hr rfl N.at_ N.kp N.b .nil pass0 (pa_cons (pv 5) pa_nil)) (pe_call L.ok hr2 rfl L.at_ L.kp L.b .nil pass0 (pa_cons (pv 5) pa_nil))))
          (pss_cons (ps_if (pt_cmp (pc_isN (pv 6))) (pss_one (ps_ret pe_non)) pss_nil)
          (pss_one (ps_dput hu (pv 3) (pv 4) (pv 6) rfl))))
          (pss_one (ps_if (pt_cmpR (op_neD hr.units) (pv 5) (pe_call S.ok hr1 rfl S.at_ S.kp S.b .nil pass0 (pa_cons (pv 4) pa_nil)) (nomark _)) (pss_one (ps_ret pe_non)) pss_nil)))))
      (pss_one (ps_ret (pv 3)))))), ?_⟩
    exact read_ops T hP hne k1 k2
end
end Pr
end

section
set_option Elab.async false
set_option linter.all false
set_option maxRecDepth 100000
set_option maxHeartbeats 400000
namespace Pr
open PySem PySem.Spec PyProof.Rows L2
open En (reachM reachesM runs layN laidN wordN Ops)
section
variable {P : Program} {w : World} {K : PySem.W.Frag} {mg : Str → Option Value} {base : Heap}
/-! ### reaches -/
def spReaches : Sp := fun vs H Q _ => ∃ (kd : Sg06.Kind) (n : Int), vs = [.str (kl kd), .int n] ∧ Q (.bl (reachesM kd n)) H
theorem scReaches : FnScope ["kind", "n", "told"] ["kind", "n"] (defScope sReaches) := ⟨rfl, rfl, rfl, by decide +kernel, rfl, by decide +kernel, by decide +kernel⟩
theorem mult_pos (kd : Sg06.Kind) : 0 < (reachM kd).2.2 := by cases kd <;> decide
theorem ok_reaches {f aK : Addr} {fd : FuncData} {t1 t2 t3 : Tok} (F : Fun K "reaches" "reaches" sReaches f fd) (hE : mg "KINDS" = some (.ref aK)) (T : KD P w K aK)
    (h1 : mg "BELOW" = some (.int 2 t1)) (h2 : mg "ABOVE" = some (.int 3 t2)) (h3 : mg "MULTIPLE" = some (.int 4 t3)) : FnOk P w K mg base CX0 1 f fd ["kind", "n"] spReaches := by
  refine F.ok scReaches (fun vs H Q E h => ?_) (fun cdv A outer s H vs Q E hr h => ?_)
  · obtain ⟨kd, n, rfl, _⟩ := h
    rfl
  · obtain ⟨kd, n, rfl, k⟩ := h
    refine ⟨_, pss_cons (ps_set (i := 2) scReaches.nd rfl (Or.inl rfl) (pe_kget (pe_glob (by rfl) hE (v := .ref aK) rfl) (pv 0) (fun _ _ => rfl)))
      (pss_one (ps_ret (pe_and (pe_chain op_le op_le (pe_un un_neg (pe_ix ix_tup (pv 2) (pe_glob (by rfl) h1 (v := .int 2) ⟨_, rfl⟩) (fun _ _ => rfl))) (pv 1) (pe_ix ix_tup (pv 2) (pe_glob (by rfl) h2 (v := .int 3) ⟨_, rfl⟩) (fun _ _ => rfl)))
        (pe_one (pe_cmpR op_eq (pe_op op_mod (pv 1) (pe_ix ix_tup (pv 2) (pe_glob (by rfl) h3 (v := .int 4) ⟨_, rfl⟩) (fun _ _ => rfl))) pe_int (nomark _)))))), ?_⟩
    have sq : ∀ H : Hp, SqT K H (kA K aK kd) (kdV K aK kd) := fun H => T.sq kd H
    refine ⟨_, rfl, aK, _, Sum.inr (kl kd), _, rfl, T.tab, rfl, kkind_get _ kd, ?_⟩
    refine ⟨_, rfl, kA K aK kd, _, 2, _, rfl, rfl, sq H, atI_nat (j := 2) rfl, _, rfl, _, rfl, _, _, rfl, rfl, _, rfl, ?_⟩
    have third : ∀ b : Bool, reachesM kd n = b → Q (.bl b) H := fun b e => by rw [← e]; exact k
    unfold reachesM at third
    by_cases c1 : -(reachM kd).1 ≤ n
    · rw [if_pos (decide_eq_true c1)]
      refine ⟨_, rfl, kA K aK kd, _, 3, _, rfl, rfl, sq H, atI_nat (j := 3) rfl, _, _, rfl, rfl, _, rfl, ?_⟩
      by_cases c2 : n ≤ (reachM kd).2.1
      · rw [if_pos (decide_eq_true c2)]
        refine ⟨_, rfl, _, rfl, kA K aK kd, _, 4, _, rfl, rfl, sq H, atI_nat (j := 4) rfl, _, _, rfl, rfl, mult_pos kd, rfl, ?_⟩
        refine third _ ?_
        rw [decide_eq_true c1, decide_eq_true c2, dec_int, Bool.beq_eq_decide_eq]
        rfl
      · rw [if_neg (by rw [decide_eq_true_eq]; exact c2)]
        refine third _ ?_
        rw [decide_eq_false c2]
        simp
    · rw [if_neg (by rw [decide_eq_true_eq]; exact c1)]
      refine ⟨_, rfl, iteF ?_⟩
      refine third _ ?_
      rw [decide_eq_false c1]
      simp
/-! ### laid -/
def spLaid : Sp := fun vs H Q _ => ∃ (kd : Sg06.Kind) (n : Int), vs = [.str (kl kd), .int n] ∧ Q (.int (laidN kd n : Nat)) H
theorem scLaid : FnScope ["kind", "n", "word", "low", "mask", "place"] ["kind", "n"] (defScope sLaid) := ⟨rfl, rfl, rfl, by decide +kernel, rfl, by decide +kernel, by decide +kernel⟩
theorem ok_laid {f aK : Addr} {fd : FuncData} {t1 : Tok} (F : Fun K "laid" "laid" sLaid f fd) (hU : mg "KINDS" = some (.ref aK)) (T : KD P w K aK) (h1 : mg "RUNS" = some (.int 5 t1)) : FnOk P w K mg base CX0 1 f fd ["kind", "n"] spLaid := by
  refine F.ok scLaid (fun vs H Q E h => ?_) (fun cdv A outer s H vs Q E hr h => ?_)
  · obtain ⟨kd, n, rfl, _⟩ := h
    rfl
  · obtain ⟨kd, n, rfl, k⟩ := h
    refine ⟨_, pss_cons (ps_set (i := 2) scLaid.nd rfl (Or.inl rfl) pe_int)
      (pss_cons (ps_for PassesOwn.never rfl (pi_tup (pe_ix ix_tup (pe_kget (pe_glob (by rfl) hU (v := .ref aK) rfl) (pv 0) (fun _ _ => rfl)) (pe_glob (by rfl) h1 (v := .int 5) ⟨_, rfl⟩) (fun _ _ => rfl))) (pg_tup rfl (pgs_cons (pg_name (i := 3) scLaid.nd rfl (Or.inl rfl)) (pgs_cons (pg_name (i := 4) scLaid.nd rfl (Or.inl rfl)) (pgs_cons (pg_name (i := 5) scLaid.nd rfl (Or.inl rfl)) pgs_nil))))
        (pss_one (ps_set (i := 2) scLaid.nd rfl (Or.inl rfl) (pe_op op_or (pv 2) (pe_op op_shl (pe_op op_and (pe_op op_shr (pv 1) (pv 3)) (pv 4)) (pv 5))))))
      (pss_one (ps_ret (pv 2)))), ?_⟩
    have hz : ((List.range (runs kd).length).map fun j => V.ref (itA K (rA K aK kd) j)).length ≤ sizeLine := by
      have := runs_len kd
      exact Nat.le_of_lt (small1000 (by simp; omega))
    refine ⟨_, rfl, aK, _, Sum.inr (kl kd), _, rfl, T.tab, rfl, kkind_get _ kd, kA K aK kd, _, 5, _, rfl, rfl, T.sq kd _, atI_nat (j := 5) rfl, rA K aK kd, rfl, ⟨_, tupV_sq (T.rs kd) hz⟩, for_tup (K := K) (a := rA K aK kd) (xs := (List.range (runs kd).length).map fun j => V.ref (itA K (rA K aK kd) j))
      (fun (i : Nat) (σ : L2.St) (H' : Hp) => H' = H ∧ ∃ x3 x4 x5 : Option V, σ = [some (.str (kl kd)), some (.int n), some (.int ((((runs kd).take i).foldl (layN n) 0 : Nat) : Int)), x3, x4, x5]) ⟨rfl, none, none, none, rfl⟩ (fun _ _ _ _ _ => tupV_sq (T.rs kd) hz) ?_ ?_⟩
    · rintro i y σ H' hi ⟨rfl, x3, x4, x5, rfl⟩
      have hi2 : i < (runs kd).length := by
        have := (List.getElem?_eq_some_iff.mp hi).1
        simpa using this
      obtain rfl : y = V.ref (itA K (rA K aK kd) i) := by
        rw [List.getElem?_map, List.getElem?_range hi2] at hi
        exact (Option.some.inj hi).symm
      obtain ⟨⟨l, m, p⟩, hrun⟩ : ∃ r, (runs kd)[i]? = some r := ⟨_, List.getElem?_eq_getElem hi2⟩
      obtain ⟨⟨c, hc, hm⟩, hl, hp⟩ := runs_mask kd _ (List.mem_of_getElem? hrun)
      dsimp only at hm hl hp
      refine ⟨itA K (rA K aK kd) i, _, rfl, tupV_sq (T.r kd i _ hrun) (by show 3 ≤ sizeLine; decide), rfl, _, _, rfl, _, _, rfl, _, _, rfl, rfl, ?_⟩
      refine ⟨_, rfl, _, rfl, _, rfl, _, _, rfl, rfl, Int.natCast_nonneg l, _, rfl, _, _, rfl, rfl, _, rfl, _, _, rfl, rfl, ?_, _, _, rfl, rfl, ?_⟩
      · dsimp only
        rw [Int.toNat_natCast, and_run hm]
        have h1 := run_lt (n := n) (l := l) hm hc
        refine ⟨Int.natCast_nonneg p, by omega, ?_⟩
        rw [Int.natAbs_natCast]
        exact Nat.lt_of_lt_of_le h1 (by decide)
      · refine ⟨rfl, some (.int (l : Nat)), some (.int (m : Nat)), some (.int (p : Nat)), ?_⟩
        dsimp only
        rw [Int.toNat_natCast, Int.toNat_natCast, and_run hm, shl_nat, bor_nat, take_snoc hrun, List.foldl_append, List.foldl_cons, List.foldl_nil, En.layN_eq]
        rfl
    · rintro σ H' ⟨rfl, x3, x4, x5, rfl⟩
      refine ⟨_, rfl, ?_⟩
      rw [List.length_map, List.length_range, List.take_length]
      exact k
/-! ### word_of -/
def spWord (K : PySem.W.Frag) : Sp := fun vs H Q _ => ∃ (r d : Addr) (k : Nat) (o : Ops) (x y z : Nat), vs = [.ref r, .ref d] ∧ k < 45 ∧ SqT K H r (rowV (Sg06.rowOf k)) ∧ H d = some (.dK (opsD o)) ∧ o.d = (x : Int) ∧ o.a = (y : Int) ∧ o.b = (z : Int) ∧ x < 32 ∧ y < 32 ∧ z < 32 ∧
  Q (.int (wordN (Sg06.rowOf k) x y z o.n : Nat)) H
theorem scWord : FnScope ["row", "operands", "word", "letter"] ["row", "operands"] (defScope sWord) := ⟨rfl, rfl, rfl, by decide +kernel, rfl, by decide +kernel, by decide +kernel⟩
def oG (x y z c : Nat) : Nat := if c = 100 then x else if c = 97 then y else z
def putW (x y z : Nat) (v : Nat) (r : Nat × Nat) : Nat := v ||| oG x y z r.1 * 2 ^ r.2
theorem or_w (a b c d e : Nat) : (((a ||| e) ||| b) ||| c) ||| d = (a ||| (b ||| c ||| d)) ||| e := by ac_rfl
theorem putW_all (k x y z : Nat) (n : Int) : pl.foldl (putW x y z) (De.fixN (Sg06.rowOf k) ||| laidN (Sg06.rowOf k).kind n) = wordN (Sg06.rowOf k) x y z n := by
  unfold pl
  rw [List.foldl_cons, List.foldl_cons, List.foldl_cons, List.foldl_nil]
  have e1 : ∀ v, putW x y z v (100, 7) = v ||| x * 2 ^ 7 := fun v => rfl
  have e2 : ∀ v, putW x y z v (97, 15) = v ||| y * 2 ^ 15 := fun v => rfl
  have e3 : ∀ v, putW x y z v (98, 20) = v ||| z * 2 ^ 20 := fun v => rfl
  rw [e1, e2, e3, or_w]
  unfold De.fixN wordN
  rfl
theorem ok_word {f ff fl aP : Addr} {fd xd ld : FuncData} {t1 : Tok} (F : Fun K "word_of" "word_of" sWord f fd) (X : Ca P w K mg base "fixed_bits" ["row"] 1 (spFixed K) ff xd) (L : Ca P w K mg base "laid" ["kind", "n"] 1 spLaid fl ld)
    (hP : mg "PLACES" = some (.ref aP)) (TP : KTab P w K aP placesD) (hs : (aP == sysModules) = false) (hK : mg "KIND" = some (.int 1 t1)) : FnOk P w K mg base CX0 2 f fd ["row", "operands"] (spWord K) := by
  refine F.ok scWord (fun vs H Q E h => ?_) (fun cdv A outer s H vs Q E hr h => ?_)
  · obtain ⟨r, d, k, o, x, y, z, rfl, _⟩ := h
    rfl
  · obtain ⟨r, d, k, o, x, y, z, rfl, hk, hR, hD, e1, e2, e3, b1, b2, b3, q⟩ := h
    have hu := hu_of hr
    refine ⟨_, pss_cons (ps_set (i := 2) scWord.nd rfl (Or.inl rfl) (pe_op op_or (pe_call X.ok hr rfl X.at_ X.kp X.b .nil pass0 (pa_cons (pv 0) pa_nil)) (pe_call L.ok hr rfl L.at_ L.kp L.b .nil pass0 (pa_cons (pe_ix ix_tup (pv 0) (pe_glob (by rfl) hK (v := .int 1) ⟨_, rfl⟩) (fun _ _ => rfl)) (pa_cons (pe_dget hu (pv 1) pe_str (fun _ _ => rfl)) pa_nil)))))
      (pss_cons (ps_for PassesOwn.never rfl (pi_kkeys (pe_glob (by rfl) hP (v := .ref aP) rfl)) (pg_name (i := 3) scWord.nd rfl (Or.inl rfl))
        (pss_one (ps_set (i := 2) scWord.nd rfl (Or.inl rfl) (pe_op op_or (pv 2) (pe_op op_shl (pe_dget hu (pv 1) (pv 3) (fun _ _ => rfl)) (pe_kget (pe_glob (by rfl) hP (v := .ref aP) rfl) (pv 3) (fun _ _ => rfl)))))))
      (pss_one (ps_ret (pv 2)))), ?_⟩
    obtain ⟨v1, v2, v3, v4⟩ := ops_val o
    have g : ∀ {c : Nat} {v : V}, valV (opsD o) (Sum.inr (⟨#[c]⟩ : Str)) = some v → DGet H d (.str ⟨#[c]⟩) (some v) := fun {c v} e => by
      have := DGet.k (k := Sum.inr (⟨#[c]⟩ : Str)) hD
      rw [e] at this
      exact this
    refine ⟨_, rfl, r, k, rfl, hk, hR, _, rfl, r, _, 1, _, rfl, rfl, hR, atI_nat (j := 1) rfl, _, rfl, d, _, rfl, g v4, (Sg06.rowOf k).kind, o.n, rfl, _, _, rfl, rfl, ?_⟩
    refine ⟨aP, placesD, rfl, hs, TP, for_kk (kvs := placesD) (fun (i : Nat) (σ : L2.St) (H' : Hp) => H' = H ∧ ∃ u : Option V, σ = [some (.ref r), some (.ref d), some (.int (((pl.take i).foldl (putW x y z) (De.fixN (Sg06.rowOf k) ||| laidN (Sg06.rowOf k).kind o.n) : Nat) : Int)), u])
      ⟨rfl, none, ?_⟩ ?_ ?_⟩
    · dsimp only
      rw [bor_nat]
      rfl
    · rintro i kk v σ H' hi ⟨rfl, u, rfl⟩
      obtain ⟨c, p, rfl, rfl, hpl, hc, hp, hv⟩ := pl_at hi
      have hg : valV (opsD o) (Sum.inr (⟨#[c]⟩ : Str)) = some (.int ((oG x y z c : Nat) : Int)) := by
        rcases hc with rfl | rfl | rfl
        · rw [v1, e1]; rfl
        · rw [v2, e2]; rfl
        · rw [v3, e3]; rfl
      have hlt : oG x y z c < 32 := by
        unfold oG
        split
        · exact b1
        · split
          · exact b2
          · exact b3
      refine ⟨_, rfl, _, rfl, _, rfl, d, _, rfl, g hg, _, rfl, aP, placesD, Sum.inr (⟨#[c]⟩ : Str), _, rfl, TP, rfl, hv, _, _, rfl, rfl, cpow_nat (k := p) (by omega) (by omega), _, _, rfl, rfl, rfl, some (.str ⟨#[c]⟩), ?_⟩
      dsimp only
      rw [Int.toNat_natCast, shl_nat, bor_nat, take_snoc hpl, List.foldl_append, List.foldl_cons, List.foldl_nil]
      rfl
    · rintro σ H' ⟨rfl, u, rfl⟩
      refine ⟨_, rfl, ?_⟩
      rw [← putW_all] at q
      exact q
end
end Pr
end

section
set_option Elab.async false
set_option linter.all false
set_option maxRecDepth 100000
set_option maxHeartbeats 400000
namespace Pr
open PySem PySem.Spec PyProof.Rows L2
open En (reachM reachesM runs layN laidN wordN Ops encodeM piecesM rowM opsM)
/-! ### parts of a list of pieces -/
theorem PL.part {H : Hp} {q p : Addr} {as as' : List Addr} {ps ps' : List (List UInt8)} (h : PL H q as ps) (hp : H p = none) (hl : as'.length = ps'.length) (hm : ∀ x y, (x, y) ∈ as'.zip ps' → (x, y) ∈ as.zip ps) :
    PL (upd H p (.lst (as'.map V.ref))) p as' ps' :=
  ⟨upd_same, hl, fun x y m => (Same.new hp) _ _ (h.at_ x y (hm x y m))⟩
theorem zip_take {α β : Type} : ∀ (k : Nat) (as : List α) (ps : List β), (as.take k).zip (ps.take k) = (as.zip ps).take k
  | 0, _, _ => by simp
  | _ + 1, [], _ => by simp
  | _ + 1, _ :: _, [] => by simp
  | k + 1, a :: as, p :: ps => by simp [zip_take k as ps]
theorem zip_drop {α β : Type} : ∀ (k : Nat) (as : List α) (ps : List β), (as.drop k).zip (ps.drop k) = (as.zip ps).drop k
  | 0, _, _ => by simp
  | _ + 1, [], _ => by simp
  | _ + 1, _ :: _, [] => by simp
  | k + 1, a :: as, p :: ps => by simp [zip_drop k as ps]
theorem PL.take {H : Hp} {q p : Addr} {as : List Addr} {ps : List (List UInt8)} (h : PL H q as ps) (hp : H p = none) (k : Nat) : PL (upd H p (.lst ((as.map V.ref).take k))) p (as.take k) (ps.take k) := by
  rw [← List.map_take]
  refine h.part hp (by rw [List.length_take, List.length_take, h.len]) fun x y m => ?_
  rw [zip_take] at m
  exact List.mem_of_mem_take m
theorem PL.drop {H : Hp} {q p : Addr} {as : List Addr} {ps : List (List UInt8)} (h : PL H q as ps) (hp : H p = none) (k : Nat) : PL (upd H p (.lst ((as.map V.ref).drop k))) p (as.drop k) (ps.drop k) := by
  rw [← List.map_drop]
  refine h.part hp (by rw [List.length_drop, List.length_drop, h.len]) fun x y m => ?_
  rw [zip_drop] at m
  exact List.mem_of_mem_drop m
theorem ops_nat {k : Nat} {kd : Sg06.Kind} {ps : List (List UInt8)} {o : Ops} (hp : ∀ p ∈ ps, p ≠ []) (h : opsM kd ps = some o) : ∃ x y z : Nat, o.d = (x : Int) ∧ o.a = (y : Int) ∧ o.b = (z : Int) ∧ x < 32 ∧ y < 32 ∧ z < 32 := by
  rw [En.opsM_tks k kd ps hp] at h
  obtain ⟨i, hi, rfl⟩ := Option.map_eq_some_iff.mp h
  obtain ⟨l, _, hop⟩ := Option.bind_eq_some_iff.mp hi
  obtain ⟨_, q1, q2, q3, _⟩ := En.ops_regs hop
  exact ⟨i.d, i.a, i.b, rfl, rfl, rfl, q1, q2, q3⟩
section
variable {P : Program} {w : World} {K : PySem.W.Frag} {mg : Str → Option Value} {base : Heap}
/-! ### encode -/
def spEnc (K : PySem.W.Frag) : Sp := fun vs H Q _ => ∃ (a : Addr) (bs : List UInt8), vs = [.ref a] ∧ SqL K H a (ib bs) ∧ bs.length ≤ 300 ∧ ∀ (H' : Hp) (p : Addr), H' p = some (.lst ((encodeM bs).map V.int)) → Q (.ref p) H'
theorem scEnc : FnScope ["line", "pieces", "row", "operands"] ["line"] (defScope sEncode) := ⟨rfl, rfl, rfl, by decide +kernel, rfl, by decide +kernel, by decide +kernel⟩
theorem ok_encode {f fp fr fo fh fw aR : Addr} {fd pd rd od hd wd : FuncData} {t1 t2 : Tok} (F : Fun K "encode" "encode" sEncode f fd) (Pc : Ca P w K mg base "pieces_of" ["line"] 1 (spPieces K) fp pd) (Rn : Ca P w K mg base "row_named" ["pieces"] 2 (spRow K aR) fr rd)
    (O : Ca P w K mg base "operands_of" ["kind", "pieces"] 4 spOps fo od) (Re : Ca P w K mg base "reaches" ["kind", "n"] 1 spReaches fh hd) (W : Ca P w K mg base "word_of" ["row", "operands"] 2 (spWord K) fw wd)
    (R : Rows K aR) (hlen : mg "len" = none) (hM : mg "MOST_LINE_BYTES" = some (.int 255 t1)) (hK : mg "KIND" = some (.int 1 t2)) : FnOk P w K mg base CX0 5 f fd ["line"] (spEnc K) := by
  refine F.ok scEnc (fun vs H Q E h => ?_) (fun cdv A outer s H vs Q E hr h => ?_)
  · obtain ⟨a, bs, rfl, _⟩ := h
    rfl
  · obtain ⟨a, bs, rfl, hS, hn, k⟩ := h
    have hr1 : Room 1 _ := hr.mono (by decide)
    have hr2 : Room 2 _ := hr.mono (by decide)
    have hu := hu_of hr
    refine ⟨_, pss_cons (ps_if (pt_cmpR op_gt (pe_callB call_len_seq (by rfl) hlen PySem.boot_len (pa_cons (pv 0) pa_nil)) (pe_glob (by rfl) hM (v := .int 255) ⟨_, rfl⟩) (nomark _)) (pss_one (ps_ret (pe_lst (pa_cons (pe_un un_neg pe_int) pa_nil)))) pss_nil)
      (pss_cons (ps_set (i := 1) scEnc.nd rfl (Or.inl rfl) (pe_call Pc.ok hr1 rfl Pc.at_ Pc.kp Pc.b .nil pass0 (pa_cons (pv 0) pa_nil)))
      (pss_cons (ps_set (i := 2) scEnc.nd rfl (Or.inl rfl) (pe_call Rn.ok hr2 rfl Rn.at_ Rn.kp Rn.b .nil pass0 (pa_cons (pe_slice sl_list (pv 1) po_none (po_some pe_int)) pa_nil)))
      (pss_cons (ps_if (pt_cmp (pc_isN (pv 2))) (pss_one (ps_ret (pe_lst (pa_cons (pe_un un_neg pe_int) pa_nil)))) pss_nil)
      (pss_cons (ps_set (i := 3) scEnc.nd rfl (Or.inl rfl) (pe_call O.ok hr rfl O.at_ O.kp O.b .nil pass0 (pa_cons (pe_ix ix_tup (pv 2) (pe_glob (by rfl) hK (v := .int 1) ⟨_, rfl⟩) (fun _ _ => rfl)) (pa_cons (pe_slice sl_list (pv 1) (po_some pe_int) po_none) pa_nil))))
      (pss_cons (ps_if (pw_or (pt_cmp (pc_isN (pv 3))) (pw_or1 (pt_not (pt_val (pe_call Re.ok hr1 (by rfl) Re.at_ Re.kp Re.b .nil pass0 (pa_cons (pe_ix ix_tup (pv 2) (pe_glob (by rfl) hK (v := .int 1) ⟨_, rfl⟩) (fun _ _ => rfl)) (pa_cons (pe_dget hu (pv 3) pe_str (fun _ _ => rfl)) pa_nil))))))).pt (pss_one (ps_ret (pe_lst (pa_cons (pe_un un_neg pe_int) pa_nil)))) pss_nil)
      (pss_one (ps_ret (pe_lst (pa_cons pe_int (pa_cons (pe_call W.ok hr2 rfl W.at_ W.kp W.b .nil pass0 (pa_cons (pv 2) (pa_cons (pv 3) pa_nil))) pa_nil)))))))))), ?_⟩
    have hl : (ib bs).length = bs.length := by simp [ib]
    have no : ∀ H' : Hp, encodeM bs = [-1] → (∀ (p : Addr), H' p = none → Q (.ref p) (upd H' p (.lst [V.int (-1)]))) := fun H' e p hp => k _ p (by rw [e]; exact upd_same)
    refine ⟨_, rfl, a, _, rfl, .inl hS, _, _, rfl, rfl, _, rfl, ?_⟩
    dsimp only
    rw [hl]
    by_cases h1 : 255 < bs.length
    · rw [if_pos (by rw [decide_eq_true_eq]; omega)]
      refine ⟨_, rfl, (by show 1 ≤ sizeLine; decide), no H ?_⟩
      unfold encodeM
      rw [if_pos h1]
    · rw [if_neg (by rw [decide_eq_true_eq]; omega)]
      have e1 : encodeM bs = (match rowM ((piecesM bs).take 1) with
        | none => [-1]
        | some k => match opsM (Sg06.rowOf k).kind ((piecesM bs).drop 1) with
          | none => [-1]
          | some o => if reachesM (Sg06.rowOf k).kind o.n = true then [0, (wordN (Sg06.rowOf k) o.d.toNat o.a.toNat o.b.toNat o.n : Nat)] else [-1]) := by
        unfold encodeM
        rw [if_neg h1]
        all_goals rfl
      refine ⟨_, rfl, a, bs, rfl, hS, hn, fun H1 q as s1 hP => ?_⟩
      refine ⟨_, rfl, _, rfl, q, _, rfl, SqL.of hP.lq, fun p1 n1 => ?_⟩
      rw [show cutV (as.map V.ref) none (some 1) = (as.map V.ref).take 1 by rw [show (1 : Int) = ((1 : Nat) : Int) from rfl, cut_to]]
      refine ⟨p1, _, _, rfl, hP.take n1 1, fun H2 s2 => ?_⟩
      cases hrow : rowM ((piecesM bs).take 1) with
      | none =>
        rw [hrow] at e1
        refine ⟨_, rfl, _, rfl, iteT ?_⟩
        exact ⟨_, rfl, (by show 1 ≤ sizeLine; decide), no H2 e1⟩
      | some rw_ =>
        rw [hrow] at e1
        dsimp only at e1
        have hk : rw_ < 45 := En.rowM_lt hrow
        refine ⟨_, rfl, _, rfl, iteF ?_⟩
        have s12 : Same H1 H2 := (Same.new n1).trans s2
        have hP2 := hP.same s12
        refine ⟨_, rfl, itA K aR rw_, _, 1, _, rfl, rfl, R.sq hk, atI_nat (j := 1) rfl, _, rfl, _, rfl, q, _, rfl, SqL.of hP2.lq, fun p2 n2 => ?_⟩
        rw [show cutV (as.map V.ref) (some 1) none = (as.map V.ref).drop 1 by rw [show (1 : Int) = ((1 : Nat) : Int) from rfl, cut_from]]
        have hne : ∀ p ∈ (piecesM bs).drop 1, p ≠ [] := fun p h => En.piecesM_ne bs p (List.mem_of_mem_drop h)
        refine ⟨(Sg06.rowOf rw_).kind, p2, _, _, rfl, hP2.drop n2 1, hne, fun ho H3 s3 => ?_, fun o ho H3 d s3 hd => ?_⟩
        · rw [ho] at e1
          refine ⟨_, rfl, _, rfl, iteT (iteT ?_)⟩
          exact ⟨_, rfl, (by show 1 ≤ sizeLine; decide), no H3 e1⟩
        · rw [ho] at e1
          dsimp only at e1
          obtain ⟨x, y, z, ex, ey, ez, bx, by_, bz⟩ := ops_nat (k := rw_) hne ho
          obtain ⟨v1, v2, v3, v4⟩ := ops_val o
          have g4 : DGet H3 d (.str ⟨#[110]⟩) (some (.int o.n)) := by
            have := DGet.k (k := Sum.inr (⟨#[110]⟩ : Str)) hd
            rw [v4] at this
            exact this
          refine ⟨_, rfl, _, rfl, iteF ?_⟩
          refine ⟨_, rfl, itA K aR rw_, _, 1, _, rfl, rfl, R.sq hk, atI_nat (j := 1) rfl, _, rfl, d, _, rfl, g4, (Sg06.rowOf rw_).kind, o.n, rfl, _, rfl, ?_⟩
          cases hre : reachesM (Sg06.rowOf rw_).kind o.n with
          | false =>
            rw [hre] at e1
            refine iteT ?_
            exact ⟨_, rfl, (by show 1 ≤ sizeLine; decide), no H3 e1⟩
          | true =>
            rw [hre, if_pos rfl, ex, ey, ez, Int.toNat_natCast, Int.toNat_natCast, Int.toNat_natCast] at e1
            refine iteF ?_
            refine ⟨_, rfl, _, rfl, itA K aR rw_, d, rw_, o, x, y, z, rfl, hk, R.sq hk, hd, ex, ey, ez, bx, by_, bz, (by show 2 ≤ sizeLine; decide), fun p3 n3 => ?_⟩
            refine k _ p3 ?_
            rw [upd_same, e1]
            rfl
end
theorem bytes_ib : ∀ ns : List Int, (∀ z ∈ ns, 0 ≤ z ∧ z ≤ 255) → ib (Sg06Neutral.bytesOf ns) = ns.map V.int
  | [], _ => rfl
  | z :: ns, h => by
    have ih := bytes_ib ns fun y m => h y (List.mem_cons_of_mem _ m)
    obtain ⟨h1, h2⟩ := h z (List.mem_cons_self ..)
    have e : ((UInt8.ofNat z.toNat).toNat : Int) = z := by
      have : (UInt8.ofNat z.toNat).toNat = z.toNat := UInt8.toNat_ofNat_of_lt' (by show z.toNat < 256; omega)
      omega
    show V.int ((UInt8.ofNat z.toNat).toNat : Int) :: ib (Sg06Neutral.bytesOf ns) = V.int z :: ns.map V.int
    rw [e, ih]
end Pr
end

section
set_option Elab.async false
set_option linter.all false
set_option maxRecDepth 100000
set_option maxHeartbeats 400000
namespace Pr
open PySem PySem.Spec PyProof.Rows L2
theorem all_mk {P : Program} {w : World} {K : PySem.W.Frag} {h : Heap} {mg : Str → Option Value} {fa aR aP aK aM : Addr} (X : K.In h) (G : h.Ns mainGlobals mg) (hfa : mg "encode" = some (.ref fa))
    (f_sSpelled : HasFn K "spelled" sSpelled)
    (f_sDigit : HasFn K "digit_of" sDigit)
    (f_sValue : HasFn K "value_of" sValue)
    (f_sNumber : HasFn K "number_of" sNumber)
    (f_sPlace : HasFn K "place_of" sPlace)
    (f_sPieces : HasFn K "pieces_of" sPieces)
    (f_sRow : HasFn K "row_named" sRow)
    (f_sOps : HasFn K "operands_of" sOps)
    (f_sReaches : HasFn K "reaches" sReaches)
    (f_sFixed : HasFn K "fixed_bits" sFixed)
    (f_sLaid : HasFn K "laid" sLaid)
    (f_sWord : HasFn K "word_of" sWord)
    (f_sEncode : HasFn K "encode" sEncode)
    (i_MOST_LINE_BYTES : HasInt K "MOST_LINE_BYTES" 255)
    (i_TAB : HasInt K "TAB" 9)
    (i_BLANK : HasInt K "BLANK" 32)
    (i_MINUS : HasInt K "MINUS" 45)
    (i_NAME : HasInt K "NAME" 0)
    (i_KIND : HasInt K "KIND" 1)
    (i_OP : HasInt K "OP" 2)
    (i_F : HasInt K "F" 3)
    (i_G : HasInt K "G" 4)
    (i_SHAPE : HasInt K "SHAPE" 0)
    (i_BELOW : HasInt K "BELOW" 2)
    (i_ABOVE : HasInt K "ABOVE" 3)
    (i_MULTIPLE : HasInt K "MULTIPLE" 4)
    (i_RUNS : HasInt K "RUNS" 5)
    (r_ROWS : HasRef K "ROWS" aR)
    (r_PLACES : HasRef K "PLACES" aP)
    (r_KINDS : HasRef K "KINDS" aK)
    (r_MARKS : HasRef K "MARKS" aM)
    (n_len : HasNo K "len")
    (n_ord : HasNo K "ord")
    (n_range : HasNo K "range")
    (n_zip : HasNo K "zip")
    (hM : tupV K aM = some [.int 40, .int 41, .int 44])
    (T : Tabs w K aR aP aK) :
    ∃ fd : FuncData, (∀ (s : Shared) (us : List Value), us.length = (["line"] : List Str).length → BindsTo s fd ⟨us, []⟩ ((["line"] : List Str).zip us)) ∧ ∀ base : Heap, K.In base → base.Ns mainGlobals mg → FnOk P w K mg base CX0 5 fa fd ["line"] (spEnc K) := by
  obtain ⟨t_MOST_LINE_BYTES, i_MOST_LINE_BYTES⟩ := i_MOST_LINE_BYTES
  replace i_MOST_LINE_BYTES := PySem.W.mg_of X G i_MOST_LINE_BYTES
  obtain ⟨t_TAB, i_TAB⟩ := i_TAB
  replace i_TAB := PySem.W.mg_of X G i_TAB
  obtain ⟨t_BLANK, i_BLANK⟩ := i_BLANK
  replace i_BLANK := PySem.W.mg_of X G i_BLANK
  obtain ⟨t_MINUS, i_MINUS⟩ := i_MINUS
  replace i_MINUS := PySem.W.mg_of X G i_MINUS
  obtain ⟨t_NAME, i_NAME⟩ := i_NAME
  replace i_NAME := PySem.W.mg_of X G i_NAME
  obtain ⟨t_KIND, i_KIND⟩ := i_KIND
  replace i_KIND := PySem.W.mg_of X G i_KIND
  obtain ⟨t_OP, i_OP⟩ := i_OP
  replace i_OP := PySem.W.mg_of X G i_OP
  obtain ⟨t_F, i_F⟩ := i_F
  replace i_F := PySem.W.mg_of X G i_F
  obtain ⟨t_G, i_G⟩ := i_G
  replace i_G := PySem.W.mg_of X G i_G
  obtain ⟨t_SHAPE, i_SHAPE⟩ := i_SHAPE
  replace i_SHAPE := PySem.W.mg_of X G i_SHAPE
  obtain ⟨t_BELOW, i_BELOW⟩ := i_BELOW
  replace i_BELOW := PySem.W.mg_of X G i_BELOW
  obtain ⟨t_ABOVE, i_ABOVE⟩ := i_ABOVE
  replace i_ABOVE := PySem.W.mg_of X G i_ABOVE
  obtain ⟨t_MULTIPLE, i_MULTIPLE⟩ := i_MULTIPLE
  replace i_MULTIPLE := PySem.W.mg_of X G i_MULTIPLE
  obtain ⟨t_RUNS, i_RUNS⟩ := i_RUNS
  replace i_RUNS := PySem.W.mg_of X G i_RUNS
  replace r_ROWS := PySem.W.mg_of X G r_ROWS
  replace r_PLACES := PySem.W.mg_of X G r_PLACES
  replace r_KINDS := PySem.W.mg_of X G r_KINDS
  replace r_MARKS := PySem.W.mg_of X G r_MARKS
  replace n_len := PySem.W.mg_none_of X G n_len
  replace n_ord := PySem.W.mg_none_of X G n_ord
  replace n_range := PySem.W.mg_none_of X G n_range
  replace n_zip := PySem.W.mg_none_of X G n_zip
  obtain ⟨a_sSpelled, kV_sSpelled, dc_sSpelled, pm_sSpelled, cd_sSpelled, ct_sSpelled, an_sSpelled, m_sSpelled, F_sSpelled⟩ := f_sSpelled.get X G
  have b_sSpelled := F_sSpelled.binds (ps := ["text"]) fun _ _ _ _ _ _ us hl => match us, hl with | [_], _ => rfl
  obtain ⟨a_sDigit, kV_sDigit, dc_sDigit, pm_sDigit, cd_sDigit, ct_sDigit, an_sDigit, m_sDigit, F_sDigit⟩ := f_sDigit.get X G
  have b_sDigit := F_sDigit.binds (ps := ["byte"]) fun _ _ _ _ _ _ us hl => match us, hl with | [_], _ => rfl
  obtain ⟨a_sValue, kV_sValue, dc_sValue, pm_sValue, cd_sValue, ct_sValue, an_sValue, m_sValue, F_sValue⟩ := f_sValue.get X G
  have b_sValue := F_sValue.binds (ps := ["digits", "base", "most"]) fun _ _ _ _ _ _ us hl => match us, hl with | [_, _, _], _ => rfl
  obtain ⟨a_sNumber, kV_sNumber, dc_sNumber, pm_sNumber, cd_sNumber, ct_sNumber, an_sNumber, m_sNumber, F_sNumber⟩ := f_sNumber.get X G
  have b_sNumber := F_sNumber.binds (ps := ["piece"]) fun _ _ _ _ _ _ us hl => match us, hl with | [_], _ => rfl
  obtain ⟨a_sPlace, kV_sPlace, dc_sPlace, pm_sPlace, cd_sPlace, ct_sPlace, an_sPlace, m_sPlace, F_sPlace⟩ := f_sPlace.get X G
  have b_sPlace := F_sPlace.binds (ps := ["piece"]) fun _ _ _ _ _ _ us hl => match us, hl with | [_], _ => rfl
  obtain ⟨a_sPieces, kV_sPieces, dc_sPieces, pm_sPieces, cd_sPieces, ct_sPieces, an_sPieces, m_sPieces, F_sPieces⟩ := f_sPieces.get X G
  have b_sPieces := F_sPieces.binds (ps := ["line"]) fun _ _ _ _ _ _ us hl => match us, hl with | [_], _ => rfl
  obtain ⟨a_sRow, kV_sRow, dc_sRow, pm_sRow, cd_sRow, ct_sRow, an_sRow, m_sRow, F_sRow⟩ := f_sRow.get X G
  have b_sRow := F_sRow.binds (ps := ["pieces"]) fun _ _ _ _ _ _ us hl => match us, hl with | [_], _ => rfl
  obtain ⟨a_sOps, kV_sOps, dc_sOps, pm_sOps, cd_sOps, ct_sOps, an_sOps, m_sOps, F_sOps⟩ := f_sOps.get X G
  have b_sOps := F_sOps.binds (ps := ["kind", "pieces"]) fun _ _ _ _ _ _ us hl => match us, hl with | [_, _], _ => rfl
  obtain ⟨a_sReaches, kV_sReaches, dc_sReaches, pm_sReaches, cd_sReaches, ct_sReaches, an_sReaches, m_sReaches, F_sReaches⟩ := f_sReaches.get X G
  have b_sReaches := F_sReaches.binds (ps := ["kind", "n"]) fun _ _ _ _ _ _ us hl => match us, hl with | [_, _], _ => rfl
  obtain ⟨a_sFixed, kV_sFixed, dc_sFixed, pm_sFixed, cd_sFixed, ct_sFixed, an_sFixed, m_sFixed, F_sFixed⟩ := f_sFixed.get X G
  have b_sFixed := F_sFixed.binds (ps := ["row"]) fun _ _ _ _ _ _ us hl => match us, hl with | [_], _ => rfl
  obtain ⟨a_sLaid, kV_sLaid, dc_sLaid, pm_sLaid, cd_sLaid, ct_sLaid, an_sLaid, m_sLaid, F_sLaid⟩ := f_sLaid.get X G
  have b_sLaid := F_sLaid.binds (ps := ["kind", "n"]) fun _ _ _ _ _ _ us hl => match us, hl with | [_, _], _ => rfl
  obtain ⟨a_sWord, kV_sWord, dc_sWord, pm_sWord, cd_sWord, ct_sWord, an_sWord, m_sWord, F_sWord⟩ := f_sWord.get X G
  have b_sWord := F_sWord.binds (ps := ["row", "operands"]) fun _ _ _ _ _ _ us hl => match us, hl with | [_, _], _ => rfl
  obtain ⟨a_sEncode, kV_sEncode, dc_sEncode, pm_sEncode, cd_sEncode, ct_sEncode, an_sEncode, m_sEncode, F_sEncode⟩ := f_sEncode.get X G
  have e := hfa.symm.trans m_sEncode
  cases e
  refine ⟨PySem.W.fnOf "encode" "encode" (defArgs sEncode) (defBody sEncode) (defScope sEncode) .none kV_sEncode dc_sEncode pm_sEncode an_sEncode cd_sEncode ct_sEncode, fun s us hu => match us, hu with | [_], _ => .of_eq rfl, fun base _ _ => ?_⟩
  have C_spelled : Ca P w K mg base "spelled" ["text"] 1 spSpelled a_sSpelled _ := ⟨ok_spelled F_sSpelled n_ord, m_sSpelled, F_sSpelled.kp, b_sSpelled⟩
  have C_digit : Ca P w K mg base "digit_of" ["byte"] 1 spDigit a_sDigit _ := ⟨ok_digit F_sDigit n_ord, m_sDigit, F_sDigit.kp, b_sDigit⟩
  have C_value : Ca P w K mg base "value_of" ["digits", "base", "most"] 2 (spValue K) a_sValue _ := ⟨ok_value F_sValue C_digit n_len, m_sValue, F_sValue.kp, b_sValue⟩
  have C_number : Ca P w K mg base "number_of" ["piece"] 3 (spNumber K) a_sNumber _ := ⟨ok_number F_sNumber C_spelled C_value i_MINUS, m_sNumber, F_sNumber.kp, b_sNumber⟩
  have C_place : Ca P w K mg base "place_of" ["piece"] 2 (spPlace K) a_sPlace _ := ⟨ok_place F_sPlace C_spelled n_range, m_sPlace, F_sPlace.kp, b_sPlace⟩
  have C_pieces : Ca P w K mg base "pieces_of" ["line"] 1 (spPieces K) a_sPieces _ := ⟨ok_pieces F_sPieces n_len i_BLANK i_TAB r_MARKS hM, m_sPieces, F_sPieces.kp, b_sPieces⟩
  have C_row : Ca P w K mg base "row_named" ["pieces"] 2 (spRow K aR) a_sRow _ := ⟨ok_row F_sRow C_spelled r_ROWS T.R i_NAME, m_sRow, F_sRow.kp, b_sRow⟩
  have C_ops : Ca P w K mg base "operands_of" ["kind", "pieces"] 4 spOps a_sOps _ := ⟨ok_ops F_sOps C_spelled C_number C_place n_len n_zip r_KINDS T.K i_SHAPE, m_sOps, F_sOps.kp, b_sOps⟩
  have C_reaches : Ca P w K mg base "reaches" ["kind", "n"] 1 spReaches a_sReaches _ := ⟨ok_reaches F_sReaches r_KINDS T.K i_BELOW i_ABOVE i_MULTIPLE, m_sReaches, F_sReaches.kp, b_sReaches⟩
  have C_fixed : Ca P w K mg base "fixed_bits" ["row"] 1 (spFixed K) a_sFixed _ := ⟨ok_fixed F_sFixed i_OP i_F i_G, m_sFixed, F_sFixed.kp, b_sFixed⟩
  have C_laid : Ca P w K mg base "laid" ["kind", "n"] 1 spLaid a_sLaid _ := ⟨ok_laid F_sLaid r_KINDS T.K i_RUNS, m_sLaid, F_sLaid.kp, b_sLaid⟩
  have C_word : Ca P w K mg base "word_of" ["row", "operands"] 2 (spWord K) a_sWord _ := ⟨ok_word F_sWord C_fixed C_laid r_PLACES T.P T.p3 i_KIND, m_sWord, F_sWord.kp, b_sWord⟩
  exact ok_encode F_sEncode C_pieces C_row C_ops C_reaches C_word T.R n_len i_MOST_LINE_BYTES i_KIND
end Pr
end

open PySem PySem.W PyProof.Rows
set_option Elab.async false
set_option maxRecDepth 100000 in
set_option maxHeartbeats 0 in
theorem PySem.Challenge.cw_oneinstruction_s01_encode_holds : PySem.Challenge.rw_oneinstruction_s01_encode.Holds := by
  w_on; k_headS; (case hw => exact ⟨[.list []], by decide +kernel, by decide +kernel⟩)
  k_fillS
  refine L2.walk_specK (r := PySem.Challenge.rw_oneinstruction_s01_encode) (k := 5) (CX := L2.CX0) (ps := ["line"]) (sp := Pr.spEnc) (by decide +kernel) rfl rfl ⟨rfl, by decide, by decide⟩ (fun w h Y => PySem.W.kIn_of Y) ?F ?S (fun _ _ _ _ z => z)
  case F =>
    intro w mg fa h Y KX G hmg
    refine' Pr.all_mk KX G hmg ?f_sSpelled ?f_sDigit ?f_sValue ?f_sNumber ?f_sPlace ?f_sPieces ?f_sRow ?f_sOps ?f_sReaches ?f_sFixed ?f_sLaid ?f_sWord ?f_sEncode ?i_MOST_LINE_BYTES ?i_TAB ?i_BLANK ?i_MINUS ?i_NAME ?i_KIND ?i_OP ?i_F ?i_G ?i_SHAPE ?i_BELOW ?i_ABOVE ?i_MULTIPLE ?i_RUNS ?r_ROWS ?r_PLACES ?r_KINDS ?r_MARKS ?n_len ?n_ord ?n_range ?n_zip ?hM ?T
    (case f_sSpelled => refine' Pr.hasFn_mk ?a ?l ?c ?k; (case a => k_is); (case l => k_is); (case c => k_is); (case k => k_is))
    (case f_sDigit => refine' Pr.hasFn_mk ?a ?l ?c ?k; (case a => k_is); (case l => k_is); (case c => k_is); (case k => k_is))
    (case f_sValue => refine' Pr.hasFn_mk ?a ?l ?c ?k; (case a => k_is); (case l => k_is); (case c => k_is); (case k => k_is))
    (case f_sNumber => refine' Pr.hasFn_mk ?a ?l ?c ?k; (case a => k_is); (case l => k_is); (case c => k_is); (case k => k_is))
    (case f_sPlace => refine' Pr.hasFn_mk ?a ?l ?c ?k; (case a => k_is); (case l => k_is); (case c => k_is); (case k => k_is))
    (case f_sPieces => refine' Pr.hasFn_mk ?a ?l ?c ?k; (case a => k_is); (case l => k_is); (case c => k_is); (case k => k_is))
    (case f_sRow => refine' Pr.hasFn_mk ?a ?l ?c ?k; (case a => k_is); (case l => k_is); (case c => k_is); (case k => k_is))
    (case f_sOps => refine' Pr.hasFn_mk ?a ?l ?c ?k; (case a => k_is); (case l => k_is); (case c => k_is); (case k => k_is))
    (case f_sReaches => refine' Pr.hasFn_mk ?a ?l ?c ?k; (case a => k_is); (case l => k_is); (case c => k_is); (case k => k_is))
    (case f_sFixed => refine' Pr.hasFn_mk ?a ?l ?c ?k; (case a => k_is); (case l => k_is); (case c => k_is); (case k => k_is))
    (case f_sLaid => refine' Pr.hasFn_mk ?a ?l ?c ?k; (case a => k_is); (case l => k_is); (case c => k_is); (case k => k_is))
    (case f_sWord => refine' Pr.hasFn_mk ?a ?l ?c ?k; (case a => k_is); (case l => k_is); (case c => k_is); (case k => k_is))
    (case f_sEncode => refine' Pr.hasFn_mk ?a ?l ?c ?k; (case a => k_is); (case l => k_is); (case c => k_is); (case k => k_is))
    (case i_MOST_LINE_BYTES => refine' Pr.hasInt_mk ?a; (case a => k_is))
    (case i_TAB => refine' Pr.hasInt_mk ?a; (case a => k_is))
    (case i_BLANK => refine' Pr.hasInt_mk ?a; (case a => k_is))
    (case i_MINUS => refine' Pr.hasInt_mk ?a; (case a => k_is))
    (case i_NAME => refine' Pr.hasInt_mk ?a; (case a => k_is))
    (case i_KIND => refine' Pr.hasInt_mk ?a; (case a => k_is))
    (case i_OP => refine' Pr.hasInt_mk ?a; (case a => k_is))
    (case i_F => refine' Pr.hasInt_mk ?a; (case a => k_is))
    (case i_G => refine' Pr.hasInt_mk ?a; (case a => k_is))
    (case i_SHAPE => refine' Pr.hasInt_mk ?a; (case a => k_is))
    (case i_BELOW => refine' Pr.hasInt_mk ?a; (case a => k_is))
    (case i_ABOVE => refine' Pr.hasInt_mk ?a; (case a => k_is))
    (case i_MULTIPLE => refine' Pr.hasInt_mk ?a; (case a => k_is))
    (case i_RUNS => refine' Pr.hasInt_mk ?a; (case a => k_is))
    (case r_ROWS => unfold Pr.HasRef; k_is)
    (case r_PLACES => unfold Pr.HasRef; k_is)
    (case r_KINDS => unfold Pr.HasRef; k_is)
    (case r_MARKS => unfold Pr.HasRef; k_is)
    (case n_len => unfold Pr.HasNo; k_is)
    (case n_ord => unfold Pr.HasNo; k_is)
    (case n_range => unfold Pr.HasNo; k_is)
    (case n_zip => unfold Pr.HasNo; k_is)
    (case hM => kernel_rfl)
    (case T => refine' ⟨?rows, ?rowsAt, ?k0, ?k1, ?k2, ?k3, ?k4, ?k5, ?p0, ?p1, ?p2, ?p3⟩ <;> kernel_rfl)
  case S =>
    intro K H xs a hO hwi hask hx
    cases hx with
    | cons h1 h2 =>
      cases h2
      cases h1 with
      | lst hs ha =>
        have e := L2.ints_dw a.1 _ ha
        subst e
        have q : ((Codec.inLen 0 300 a.1 && a.1.all (Codec.inInt 0 255)) && true) = true := hwi
        rw [Bool.and_eq_true, Bool.and_eq_true] at q
        have hb : ∀ z ∈ a.1, 0 ≤ z ∧ z ≤ 255 := fun z hz => Codec.inInt_iff.mp (List.all_eq_true.mp q.1.2 z hz)
        refine ⟨_, Sg06Neutral.bytesOf a.1, rfl, ?_, ?_, fun H' p hp => ?_⟩
        · rw [Pr.bytes_ib a.1 hb]; exact hs
        · rw [Sg06Neutral.bytesOf, List.length_map]; exact (Codec.inNat_iff.mp q.1.1).2
        · have e2 : PySg06.encode a.1 = En.encodeM (Sg06Neutral.bytesOf a.1) := En.encode_eq a.1 _ rfl
          rw [← e2] at hp
          exact .lst (L2.SqL.of hp) (L2.dw_ints _)
#print axioms PySem.Challenge.cw_oneinstruction_s01_encode_holds
