import PyProof.Rows.All
import Wide.All
import OpenK.AllK
import Wide.FinOn
import PyProof.EqAt
import PyProof.EqKinds
import PyProof.TupleCall
import KE.BitLaws
import Open.SpecLaws
import KE.OsHead
import KE.OsGo
import KE.KDictSum
import PyProof.SumAny
import PyProof.ListRange
import PyProof.DictWalks
import PyProof.Rows.TupDisplay
import PySem.Challenge.RW_urndraws_s01_answers
set_option Elab.async false
set_option linter.all false
set_option maxRecDepth 100000
/-! THE HAND LAYER, for ints, bools, texts, own classes, lists, tuples, dicts, comprehensions, walks over dicts, enumerate, zip, reversed, texts, calls, loops. Paste it whole ahead of your own text; what your proof does not reach may be deleted. -/
namespace L2
open PySem PySem.Spec PyProof.Rows

/-- a key: an int or a str -/
abbrev Key := Sum Int Str
def keyIs : Key → Value → Bool
  | .inl k, v => Value.isInt k v
  | .inr x, v => Value.isStrOf x v
def keyH (w : World) : Key → Int
  | .inl k => hashInt k
  | .inr x => hashStr w x
theorem keyIs_shape : ∀ {k : Key} {v : Value}, keyIs k v = true → (∃ i t, k = Sum.inl i ∧ v = Value.int i t) ∨ (∃ x t, k = Sum.inr x ∧ v = Value.str x t)
  | .inl i, v, h => by
    obtain ⟨t, e⟩ := Value.isInt_shape (k := i) (v := v) h
    exact .inl ⟨i, t, rfl, e⟩
  | .inr x, v, h => by
    obtain ⟨t, e⟩ := Value.isStrOf_shape (x := x) (v := v) h
    exact .inr ⟨x, t, rfl, e⟩
theorem keyIs_int (i : Int) (t : Tok) : keyIs (.inl i) (.int i t) = true := by simp [keyIs, Value.isInt]
theorem keyIs_str (x : Str) (t : Tok) : keyIs (.inr x) (.str x t) = true := by simp [keyIs, Value.isStrOf]
theorem key_ll (a b : Int) : decide ((Sum.inl a : Key) = Sum.inl b) = (a == b) := by
  by_cases e : a = b
  · subst e; simp
  · have h : ¬ (Sum.inl a : Key) = Sum.inl b := fun q => e (Sum.inl.inj q)
    rw [decide_eq_false h]
    exact (beq_eq_false_iff_ne.mpr e).symm
theorem key_rr (a b : Str) : decide ((Sum.inr a : Key) = Sum.inr b) = decide (a = b) := by
  by_cases e : a = b
  · subst e; simp
  · have h : ¬ (Sum.inr a : Key) = Sum.inr b := fun q => e (Sum.inr.inj q)
    rw [decide_eq_false h, decide_eq_false e]
theorem key_lr (a : Int) (b : Str) : decide ((Sum.inl a : Key) = Sum.inr b) = false := decide_eq_false (fun q => nomatch q)
theorem key_rl (a : Str) (b : Int) : decide ((Sum.inr a : Key) = Sum.inl b) = false := decide_eq_false (fun q => nomatch q)

def mixKind (prog : Program) (w : World) : PySem.KeyKind prog w Key where
  is := keyIs
  hash := keyH w
  inj := fun v a b ha hb => by
    rcases keyIs_shape ha with ⟨i, t, rfl, rfl⟩ | ⟨x, t, rfl, rfl⟩
    · rcases keyIs_shape hb with ⟨j, u, rfl, e⟩ | ⟨y, u, rfl, e⟩
      · injection e with e1 _; rw [e1]
      · exact nomatch e
    · rcases keyIs_shape hb with ⟨j, u, rfl, e⟩ | ⟨y, u, rfl, e⟩
      · exact nomatch e
      · injection e with e1 _; rw [e1]
  byValue := fun k v h => by
    rcases keyIs_shape h with ⟨i, t, rfl, rfl⟩ | ⟨x, t, rfl, rfl⟩ <;> rfl
  pyHash := fun hv h => by
    rcases keyIs_shape hv with ⟨i, t, rfl, rfl⟩ | ⟨x, t, rfl, rfl⟩
    · exact wpAny_pyHash_int h
    · exact wpAny_pyHash_str h
  eqBool := fun hu hv h => by
    rcases keyIs_shape hu with ⟨i, t, rfl, rfl⟩ | ⟨x, t, rfl, rfl⟩
    · rcases keyIs_shape hv with ⟨j, u, rfl, rfl⟩ | ⟨y, u, rfl, rfl⟩
      · rw [key_ll] at h; exact wpAny_eqBool_int h
      · rw [key_lr] at h; exact SeqAt.EqAt.int_str i t y u _ _ _ _ h
    · rcases keyIs_shape hv with ⟨j, u, rfl, rfl⟩ | ⟨y, u, rfl, rfl⟩
      · rw [key_rl] at h; exact SeqAt.EqAt.str_int x t j u _ _ _ _ h
      · rw [key_rr] at h; exact wpAny_eqBool_str h
  «strs» := fun k x t v h => by
    rcases keyIs_shape h with ⟨i, u, rfl, e⟩ | ⟨y, u, rfl, e⟩
    · exact nomatch e
    · injection e with e1 _
      subst e1
      cases v <;> rfl

theorem mixKind_int (prog : Program) (w : World) (i : Int) (t : Tok) : (mixKind prog w).is (.inl i) (.int i t) = true := keyIs_int i t
theorem mixKind_str (prog : Program) (w : World) (x : Str) (t : Tok) : (mixKind prog w).is (.inr x) (.str x t) = true := keyIs_str x t
end L2

namespace L2
open PySem PySem.Spec PyProof.Rows

/-- a value, without the heap -/
inductive V where
  | non | bl (b : Bool) | int (i : Int) | str (x : Str) | byt (b : Array UInt8) | flt (b : UInt64) | ref (a : Addr) | ty (n : String)
  deriving DecidableEq

def RelV : V → Value → Prop
  | .non, u => u = Value.none
  | .bl b, u => u = Value.bool b
  | .int i, u => ∃ t, u = Value.int i t
  | .str x, u => ∃ t, u = Value.str x t
  | .byt b, u => ∃ t, u = Value.bytes b t
  | .flt b, u => ∃ t, u = Value.float b t
  | .ref a, u => u = Value.ref a
  | .ty n, u => u = Value.type n

abbrev Vals : List V → List Value → Prop := Paired RelV
theorem Vals.length {xs : List V} {us : List Value} (r : Vals xs us) : xs.length = us.length := Paired.length r
theorem Vals.get : ∀ {xs : List V} {us : List Value} {i : Nat} {x : V}, Vals xs us → xs[i]? = some x → ∃ u, us[i]? = some u ∧ RelV x u
  | _, _, _, _, .nil, e => by simp at e
  | _, _, 0, _, .cons r _, e => by simp at e; subst e; exact ⟨_, rfl, r⟩
  | _, _, i + 1, x, .cons _ t, e => by
    obtain ⟨u, h1, h2⟩ := Vals.get (i := i) (x := x) t (by simpa using e)
    exact ⟨u, by simpa using h1, h2⟩
theorem Vals.set {x : V} {u : Value} (r : RelV x u) : ∀ {xs : List V} {us : List Value} (i : Nat), Vals xs us → Vals (xs.set i x) (us.set i u)
  | _, _, _, .nil => .nil
  | _, _, 0, .cons _ t => .cons r t
  | _, _, i + 1, .cons q t => .cons q (Vals.set r i t)
theorem Vals.append : ∀ {xs ys : List V} {us ws : List Value}, Vals xs us → Vals ys ws → Vals (xs ++ ys) (us ++ ws)
  | _, _, _, _, .nil, s => s
  | _, _, _, _, .cons r t, s => .cons r (Vals.append t s)
theorem Vals.take : ∀ {xs : List V} {us : List Value} (n : Nat), Vals xs us → Vals (xs.take n) (us.take n)
  | _, _, 0, _ => .nil
  | _, _, _ + 1, .nil => .nil
  | _, _, n + 1, .cons r t => .cons r (Vals.take n t)
theorem Vals.drop : ∀ {xs : List V} {us : List Value} (n : Nat), Vals xs us → Vals (xs.drop n) (us.drop n)
  | _, _, 0, r => r
  | _, _, _ + 1, .nil => .nil
  | _, _, n + 1, .cons _ t => Vals.drop n t
theorem Vals.none_of : ∀ {xs : List V} {us : List Value} {i : Nat}, Vals xs us → xs[i]? = none → us[i]? = none := fun {xs us i} r e => by
  have h1 := r.length
  have h2 : xs.length ≤ i := List.getElem?_eq_none_iff.mp e
  exact List.getElem?_eq_none_iff.mpr (by omega)

def RelO : Option V → Option Value → Prop
  | some v, some u => RelV v u
  | none, none => True
  | _, _ => False
def KV {κ : Type} : List (κ × V) → List (κ × Value) → Prop := Paired fun (p : κ × V) (q : κ × Value) => p.1 = q.1 ∧ RelV p.2 q.2

/-- a key of a dict (00_mix): an int or a text -/
def kV : Key → V
  | .inl i => .int i
  | .inr x => .str x

/-- what stands at a tracked address -/
inductive HO where
  /-- a list -/
  | lst (xs : List V)
  /-- a tuple (never changes) -/
  | tup (xs : List V)
  /-- a dict whose keys are ints and texts; one whose keys are tuples of ints and texts (the empty one is both) -/
  | dK (kvs : List (Key × V)) | dT (kvs : List (List Key × V))
  /-- a set of ints: its members, its size -/
  | set (S : Int → Bool) (n : Nat)
  /-- an instance of the class at C, its dict at dx, its attributes -/
  | ins (C dx : Addr) (fs : List (Str × V))
  /-- the dict of the instance at x -/
  | own (x : Addr)
  /-- the dict of an exception -/
  | xd (fs : List (Str × V))
  /-- a bound method, f of x -/
  | met (f x : Addr)
  /-- a range object lo, lo + 1, .. below hi -/
  | rng (lo hi : Int)
  /-- a thing that is known to the object (the script; a dict while a loop walks it): read, never written while it is so -/
  | frz (o : Obj) (u : HO)
  /-- a code object's table -/
  | tbl (ps : Array Value)
  /-- any other thing, by what is true of its one object (a def of one's own: SetO a S n := HO.ext fun h => ..) -/
  | ext (φ : Heap → Prop)

abbrev Hp := Addr → Option HO
def upd (H : Hp) (a : Addr) (o : HO) : Hp := fun b => if b = a then some o else H b
theorem upd_same {H : Hp} {a : Addr} {o : HO} : upd H a o a = some o := by unfold upd; rw [if_pos rfl]
theorem upd_ne {H : Hp} {a b : Addr} {o : HO} (h : b ≠ a) : upd H a o b = H b := by unfold upd; rw [if_neg h]
theorem upd_upd {H : Hp} {a : Addr} {o u : HO} : upd (upd H a o) a u = upd H a u := by
  funext b; unfold upd; split <;> rfl
/-- two objects of different content stand apart -/
theorem ne_of {H : Hp} {a b : Addr} {o u : HO} (h : H a = some o) (h' : H b = some u) (d : o ≠ u) : a ≠ b := by
  intro e; subst e; rw [h] at h'; exact d (Option.some.inj h')
theorem ne_of_none {H : Hp} {a b : Addr} {o : HO} (h : H a = some o) (h' : H b = none) : a ≠ b := by
  intro e; subst e; rw [h] at h'; cases h'

/-- a tuple that bears no dict of its own -/
def TupD (h : Heap) (a : Addr) (items : Array Value) : Prop := ∃ o, h.get? a = some o ∧ o.cls = .type "tuple" ∧ (∃ n, o.data = .seq items n) ∧ o.dict = none
theorem TupD.tup {h : Heap} {a : Addr} {items : Array Value} (x : TupD h a items) : IsTup h a items := let ⟨o, h1, h2, h3, _⟩ := x; ⟨o, h1, h2, h3⟩
theorem TupD.new (h : Heap) (items : Array Value) : TupD (h.push { cls := .type "tuple", data := .seq items }) h.objs.size items := ⟨_, Heap.get?_push_size _ rfl, rfl, ⟨_, rfl⟩, rfl⟩
section
variable (P : Program) (w : World)
def ObjOk (H : Hp) (h : Heap) (a : Addr) : HO → Prop
  | .lst xs => xs.length ≤ sizeLine ∧ ∃ (its : List Value) (n : Nat), Vals xs its ∧ h.get? a = some { cls := .type "list", data := .seq its.toArray n }
  | .tup xs => xs.length ≤ sizeLine ∧ ∃ its : List Value, Vals xs its ∧ TupD h a its.toArray
  | .dK kvs => kvs.length ≤ sizeLine ∧ (a == sysModules) = false ∧ ∃ vs, KV kvs vs ∧ h.DictOf (mixKind P w) a vs
  | .dT kvs => kvs.length ≤ sizeLine ∧ (a == sysModules) = false ∧ ∃ xs : List (List Key × Addr × Value),
      Paired (fun (p : List Key × V) (q : List Key × Addr × Value) => p.1 = q.1 ∧ H q.2.1 = some (.tup (p.1.map kV)) ∧ RelV p.2 q.2.2) kvs xs ∧
      ∃ o es ep, h.get? a = some o ∧ o.ExactDict ∧ o.data = .dict es ep ∧ es.toList = xs.map (entryOfKey (tupleKind (mixKind P w))) ∧ (xs.map (·.1)).Nodup
  | .set S n => h.SetOf (intKind P w) a S n
  | .ins C dx fs => H dx = some (.own a) ∧ fs.length ≤ 1000 ∧ dx ≠ a ∧ h.get? a = some (PySem.W.instObj C dx) ∧
      ∃ mA, h.Ns1 dx mA ∧ (∀ f, RelO (fs.lookup f) (mA f)) ∧ PySem.Within mA (fs.map (·.1))
  | .own _ => ∃ o, h.get? a = some o
  | .xd fs => ∃ mA, h.Ns1 a mA ∧ ∀ f, RelO (fs.lookup f) (mA f)
  | .rng lo hi => ∃ t u v, h.get? a = some { cls := .type "range", data := .fields #[.int lo t, .int hi u, .int 1 v] }
  | .frz o u => h.get? a = some o ∧ ObjOk H h a u
  | .tbl ps => h.get? a = some { cls := .none, data := .fields ps }
  | .met f x => h.get? a = some (PySem.W.methodObj (.ref f) (.ref x))
  | .ext φ => φ h ∧ (∃ o, h.get? a = some o) ∧ ∀ h1 h2 : Heap, φ h1 → (∀ o, h1.get? a = some o → h2.get? a = some o) → φ h2
/-- the abstract heap is held -/
def HOk (H : Hp) (h : Heap) : Prop := ∀ a o, H a = some o → ObjOk P w H h a o
end

section
variable {P : Program} {w : World} {H H' : Hp} {h h' : Heap} {a : Addr} {o : HO}
theorem ObjOk.lt (x : ObjOk P w H h a o) : a < h.objs.size := by
  cases o with
  | lst xs => obtain ⟨_, _, _, _, e⟩ := x; exact Heap.lt_size e
  | tup xs => obtain ⟨_, _, _, p⟩ := x; exact p.tup.lt
  | dK kvs => obtain ⟨_, _, _, _, o, _, _, e, _⟩ := x; exact Heap.lt_size e
  | dT kvs => obtain ⟨_, _, _, _, o, _, _, e, _⟩ := x; exact Heap.lt_size e
  | set S n => obtain ⟨o, _, _, _, e, _⟩ := x; exact Heap.lt_size e
  | ins C dx fs => obtain ⟨_, _, _, e, _⟩ := x; exact Heap.lt_size e
  | own y => obtain ⟨_, e⟩ := x; exact Heap.lt_size e
  | xd fs => obtain ⟨_, ⟨_, _, _, e, _⟩, _⟩ := x; exact Heap.lt_size e
  | rng lo hi => obtain ⟨_, _, _, e⟩ := x; exact Heap.lt_size e
  | frz ob u => obtain ⟨e, _⟩ := x; exact Heap.lt_size e
  | tbl ps => exact Heap.lt_size (show h.get? a = some _ from x)
  | met f y => exact Heap.lt_size (show h.get? a = some _ from x)
  | ext φ => obtain ⟨_, ⟨_, e⟩, _⟩ := x; exact Heap.lt_size e
theorem Paired.mapP {α β : Type} {F G : α → β → Prop} : ∀ {l₁ : List α} {l₂ : List β}, Paired F l₁ l₂ → (∀ a b, F a b → G a b) → Paired G l₁ l₂
  | _, _, .nil, _ => .nil
  | _, _, .cons r t, f => .cons (f _ _ r) (Paired.mapP t f)
/-- what an object's description leans on: its own object, its own dict, the tuples -/
theorem ObjOk.stay (x : ObjOk P w H h a o) (k : ∀ b u, (b = a ∨ H b = some (.own a)) → h.get? b = some u → h'.get? b = some u)
    (ho : ∀ b, H b = some (.own a) → H' b = some (.own a)) (ht : ∀ b xs, H b = some (.tup xs) → H' b = some (.tup xs)) : ObjOk P w H' h' a o := by
  induction o with
  | lst xs => obtain ⟨z, its, n, r, e⟩ := x; exact ⟨z, its, n, r, k _ _ (.inl rfl) e⟩
  | tup xs => obtain ⟨z, its, r, ob, e, c⟩ := x; exact ⟨z, its, r, ob, k _ _ (.inl rfl) e, c⟩
  | dK kvs => obtain ⟨z, y, vs, r, ob, es, ep, e, c⟩ := x; exact ⟨z, y, vs, r, ob, es, ep, k _ _ (.inl rfl) e, c⟩
  | dT kvs =>
    obtain ⟨z, y, xs, r, ob, es, ep, e, c⟩ := x
    exact ⟨z, y, xs, Paired.mapP r fun p q z => ⟨z.1, ht _ _ z.2.1, z.2.2⟩, ob, es, ep, k _ _ (.inl rfl) e, c⟩
  | set S n => obtain ⟨ob, es, ep, t, e, c⟩ := x; exact ⟨ob, es, ep, t, k _ _ (.inl rfl) e, c⟩
  | ins C dx fs =>
    obtain ⟨d, z, ne, e, mA, ⟨od, es, ep, e2, c⟩, r⟩ := x
    exact ⟨ho _ d, z, ne, k _ _ (.inl rfl) e, mA, ⟨od, es, ep, k _ _ (.inr d) e2, c⟩, r⟩
  | own y => obtain ⟨ob, e⟩ := x; exact ⟨ob, k _ _ (.inl rfl) e⟩
  | xd fs => obtain ⟨mA, ⟨od, es, ep, e, c⟩, r⟩ := x; exact ⟨mA, ⟨od, es, ep, k _ _ (.inl rfl) e, c⟩, r⟩
  | rng lo hi => obtain ⟨t, u, v, e⟩ := x; exact ⟨t, u, v, k _ _ (.inl rfl) e⟩
  | frz ob u ih => obtain ⟨e, q⟩ := x; exact ⟨k _ _ (.inl rfl) e, ih q⟩
  | tbl ps =>
    have e : h.get? a = some { cls := .none, data := .fields ps } := x
    show h'.get? a = some { cls := .none, data := .fields ps }
    exact k a _ (.inl rfl) e
  | met f y =>
    have e : h.get? a = some (PySem.W.methodObj (.ref f) (.ref y)) := x
    show h'.get? a = some (PySem.W.methodObj (.ref f) (.ref y))
    exact k a _ (.inl rfl) e
  | ext φ => obtain ⟨p, ⟨o, e⟩, st⟩ := x; exact ⟨st _ _ p fun o q => k _ _ (.inl rfl) q, ⟨o, k _ _ (.inl rfl) e⟩, st⟩
theorem HOk.lt (x : HOk P w H h) (e : H a = some o) : a < h.objs.size := (x a o e).lt
theorem HOk.fresh (x : HOk P w H h) (e : h.objs.size ≤ a) : H a = none := by
  cases q : H a with
  | none => rfl
  | some u => exact absurd (Nat.lt_of_lt_of_le (x.lt q) e) (Nat.lt_irrefl _)
/-- every object of the heap is kept -/
theorem HOk.kept (x : HOk P w H h) (k : ∀ b u, h.get? b = some u → h'.get? b = some u) : HOk P w H h' := fun a o e =>
  (x a o e).stay (fun b u _ q => k b u q) (fun _ q => q) fun _ _ q => q
/-- a new object is laid and tracked -/
theorem HOk.laid (x : HOk P w H h) (k : ∀ b u, h.get? b = some u → h'.get? b = some u) (hp : h.objs.size ≤ a) (new : ObjOk P w (upd H a o) h' a o) : HOk P w (upd H a o) h' := fun b u e => by
  have hn := x.fresh hp
  by_cases hb : b = a
  · subst hb; rw [upd_same] at e; cases e; exact new
  · rw [upd_ne hb] at e
    exact (x b u e).stay (fun c v _ q => k c v q) (fun c q => by rw [upd_ne (ne_of_none q hn)]; exact q) fun c xs q => by rw [upd_ne (ne_of_none q hn)]; exact q
end

/-- what may be read as u: it is u, or a known u -/
def Rd (H : Hp) (a : Addr) (u : HO) : Prop := H a = some u ∨ ∃ o, H a = some (.frz o u)
theorem Rd.of {H : Hp} {a : Addr} {u : HO} (h : H a = some u) : Rd H a u := .inl h
theorem Rd.ok {P : Program} {w : World} {H : Hp} {h : Heap} {a : Addr} {u : HO} (r : Rd H a u) (x : HOk P w H h) : ObjOk P w H h a u := by
  rcases r with r | ⟨o, r⟩
  · exact x a u r
  · obtain ⟨_, q⟩ := x a _ r
    exact q
/-- what may be written -/
def Mut : Option HO → Prop
  | some (.lst _) => True
  | some (.dK _) => True
  | some (.dT _) => True
  | some (.set _ _) => True
  | some (.ins _ _ _) => True
  | some (.ext _) => True
  | _ => False
section
variable {P : Program} {w : World} {H : Hp} {h h' : Heap} {x e : Addr} {o' : HO}
/-- the object at e is changed: x itself, or the dict of the instance x -/
theorem HOk.write (ok : HOk P w H h) (mu : Mut (H x)) (he : e = x ∨ H e = some (.own x)) (k : ∀ b u, b ≠ e → h.get? b = some u → h'.get? b = some u) (heo : ∃ u, h'.get? e = some u)
    (new : ObjOk P w (upd H x o') h' x o') : HOk P w (upd H x o') h' := fun b u q => by
  have nown : ∀ c y, H c = some (.own y) → c ≠ x := fun c y r z => by subst z; rw [r] at mu; exact mu
  have ntup : ∀ c xs, H c = some (.tup xs) → c ≠ x := fun c xs r z => by subst z; rw [r] at mu; exact mu
  by_cases hb : b = x
  · subst hb; rw [upd_same] at q; cases q; exact new
  · rw [upd_ne hb] at q
    by_cases hbe : b = e
    · have q' : H b = some (.own x) := by
        rcases he with z | z
        · exact absurd (hbe.trans z) hb
        · rw [hbe]; exact z
      rw [q] at q'; cases q'
      obtain ⟨v, hv⟩ := heo
      exact ⟨v, by rw [hbe]; exact hv⟩
    · refine (ok b u q).stay (fun c v hc r => k c v ?_ r) (fun c r => by rw [upd_ne (nown c b r)]; exact r) fun c xs r => by rw [upd_ne (ntup c xs r)]; exact r
      rcases hc with rfl | hc
      · exact hbe
      · rintro rfl
        rcases he with z | z
        · exact nown c b hc z
        · rw [hc] at z; cases z; exact hb rfl
end

/-! ### kept unless tracked; of the frames at fs (the callers') the slots may change (an exception that passes writes there); of the records at ex (iterators) nothing is said -/
structure Un (fs ex : List Addr) (H H' : Hp) (h h' : Heap) : Prop where
  keep : ∀ b o, h.get? b = some o → H b = none → b ∉ fs → b ∉ ex → h'.get? b = some o
  slot : ∀ b o, h.get? b = some o → H b = none → b ∈ fs → b ∉ ex → ∃ sl, h'.get? b = some { o with slots := sl }
  free : ∀ b o, h.get? b = some o → H b = none → b ∉ ex → H' b = none
  there : ∀ b o, h.get? b = some o → b ∉ ex → ∃ o', h'.get? b = some o'
  tups : ∀ b xs, H b = some (.tup xs) → H' b = some (.tup xs)
  frzs : ∀ b o u, H b = some (.frz o u) → H' b = some (.frz o u)
  tbls : ∀ b ps, H b = some (.tbl ps) → ∃ more, H' b = some (.tbl (ps ++ more))
section
variable {fs fs' ex ex' : List Addr} {H H1 H2 : Hp} {h h1 h2 h' : Heap} {a x e : Addr} {o : HO}
theorem Un.any (u : Un fs ex H H1 h h1) {b : Addr} {ob : Obj} (q : h.get? b = some ob) (n : H b = none) (hx : b ∉ ex) : ∃ sl, h1.get? b = some { ob with slots := sl } := by
  by_cases hb : b ∈ fs
  · exact u.slot b ob q n hb hx
  · exact ⟨ob.slots, u.keep b ob q n hb hx⟩
theorem Un.trans (a : Un fs ex H H1 h h1) (b : Un fs ex H1 H2 h1 h2) : Un fs ex H H2 h h2 where
  keep := fun c ob q n hc hx => b.keep c ob (a.keep c ob q n hc hx) (a.free c ob q n hx) hc hx
  slot := fun c ob q n hc hx => by
    obtain ⟨sl, e1⟩ := a.slot c ob q n hc hx
    obtain ⟨sl', e2⟩ := b.slot c _ e1 (a.free c ob q n hx) hc hx
    exact ⟨sl', e2⟩
  free := fun c ob q n hx => by
    obtain ⟨o', e1⟩ := a.there c ob q hx
    exact b.free c o' e1 (a.free c ob q n hx) hx
  there := fun c ob q hx => by
    obtain ⟨o', e1⟩ := a.there c ob q hx
    exact b.there c o' e1 hx
  tups := fun c xs q => b.tups c xs (a.tups c xs q)
  frzs := fun c ob xs q => b.frzs c ob xs (a.frzs c ob xs q)
  tbls := fun c ps q => by
    obtain ⟨m1, e1⟩ := a.tbls c ps q
    obtain ⟨m2, e2⟩ := b.tbls c _ e1
    exact ⟨m1 ++ m2, by rw [e2, Array.append_assoc]⟩
theorem Un.kept (k : ∀ b u, h.get? b = some u → h'.get? b = some u) : Un fs ex H H h h' :=
  ⟨fun b ob q _ _ _ => k b ob q, fun b ob q _ _ _ => ⟨ob.slots, k b ob q⟩, fun _ _ _ n _ => n, fun b ob q _ => ⟨ob, k b ob q⟩, fun _ _ q => q, fun _ _ _ q => q, fun _ ps q => ⟨#[], by rw [q]; simp⟩⟩
theorem Un.refl : Un fs ex H H h h := Un.kept fun _ _ q => q
theorem Un.laid (k : ∀ b u, h.get? b = some u → h'.get? b = some u) (hp : h.objs.size ≤ a) (hn : H a = none) : Un fs ex H (upd H a o) h h' where
  keep := fun b u q _ _ _ => k b u q
  slot := fun b u q _ _ _ => ⟨u.slots, k b u q⟩
  free := fun b u q n _ => by rw [upd_ne (Nat.ne_of_lt (Nat.lt_of_lt_of_le (Heap.lt_size q) hp))]; exact n
  there := fun b u q _ => ⟨u, k b u q⟩
  tups := fun b xs q => by rw [upd_ne (ne_of_none q hn)]; exact q
  frzs := fun b u xs q => by rw [upd_ne (ne_of_none q hn)]; exact q
  tbls := fun b ps q => ⟨#[], by rw [upd_ne (ne_of_none q hn), q]; simp⟩
theorem Un.write (mu : Mut (H x)) (he : e = x ∨ H e = some (.own x)) (k : ∀ b u, b ≠ e → h.get? b = some u → h'.get? b = some u) (heo : ∃ u, h'.get? e = some u) : Un fs ex H (upd H x o) h h' := by
  have hx : ∀ b, H b = none → b ≠ x := fun b n z => by subst z; rw [n] at mu; exact mu
  have hb : ∀ b, H b = none → b ≠ e := fun b n z => by
    subst z
    rcases he with r | r
    · exact hx b n r
    · rw [n] at r; cases r
  have hm : ∀ b u, H b = some u → ¬ Mut (some u) → b ≠ x := fun b u q nm z => by subst z; rw [q] at mu; exact nm mu
  refine ⟨fun b u q n _ _ => k b u (hb b n) q, fun b u q n _ _ => ⟨u.slots, k b u (hb b n) q⟩, fun b u q n _ => by rw [upd_ne (hx b n)]; exact n, fun b u q _ => ?_,
    fun b xs q => by rw [upd_ne (hm b _ q fun z => z)]; exact q, fun b u xs q => by rw [upd_ne (hm b _ q fun z => z)]; exact q, fun b ps q => ⟨#[], by rw [upd_ne (hm b _ q fun z => z), q]; simp⟩⟩
  by_cases hbe : b = e
  · subst hbe; exact heo
  · exact ⟨u, k b u hbe q⟩
theorem Un.mono (u : Un fs ex H H1 h h1) (hs : ∀ b ∈ fs, b ∈ fs') (hx : ∀ b ∈ ex, b ∈ ex') : Un fs' ex' H H1 h h1 :=
  ⟨fun b ob q n hb he => u.keep b ob q n (fun z => hb (hs b z)) fun z => he (hx b z), fun _ _ q n _ he => u.any q n fun z => he (hx _ z), fun b ob q n he => u.free b ob q n fun z => he (hx b z), fun b ob q he => u.there b ob q fun z => he (hx b z), u.tups, u.frzs, u.tbls⟩
end

/-! ### the heap without what is tracked -/
def trk (h : Heap) (H : Hp) : List Addr := (List.range h.objs.size).filter fun a => (H a).isSome
def hidT (h : Heap) (H : Hp) : Heap := PySem.W.hideAll h (trk h H)
theorem hidT_size (h : Heap) (H : Hp) : (hidT h H).objs.size = h.objs.size := PySem.W.hideAll_size _ _
theorem hidT_get {h : Heap} {H : Hp} {b : Addr} {o : Obj} (e : h.get? b = some o) (n : H b = none) : (hidT h H).get? b = some o :=
  PySem.W.hideAll_get _ e fun hm => by
    have q : (H b).isSome = true := (List.mem_filter.mp hm).2
    rw [n] at q; simp at q
theorem of_hidT {h : Heap} {H : Hp} {b : Addr} {o : Obj} (e : (hidT h H).get? b = some o) : h.get? b = some o ∧ H b = none := by
  have e' : h.get? b = some o := PySem.W.of_hideAll (trk h H) e
  refine ⟨e', ?_⟩
  cases q : H b with
  | none => rfl
  | some x =>
    have hm : b ∈ trk h H := List.mem_filter.mpr ⟨List.mem_range.mpr (Heap.lt_size e'), by simp [q]⟩
    have z : (hidT h H).get? b = none := PySem.W.hideAll_none (trk h H) hm
    rw [z] at e; cases e

/-! ### OpenK's ledger, filled with every new object but one -/
def allNews (g h : Heap) (L : Addr) : List (Addr × Obj) := (List.range h.objs.size).filterMap fun a => if a = L ∨ (g.get? a).isSome = true then none else (h.get? a).map fun o => (a, o)
def rest (g h : Heap) (L d : Addr) : List (Addr × Obj) := (allNews g h L).filter fun p => decide (p.1 ≠ d)
end L2

namespace L2
open PySem PySem.Spec PyProof.Rows

/-- the module's facts, over the base: the heap at the law's entry without what is tracked there -/
structure Mod (K : PySem.W.Frag) (mg : Str → Option Value) (base : Heap) : Prop where
  kin : K.In base
  glob : base.Ns mainGlobals mg
  blt : ∃ mb, base.Ns builtinsNs mb ∧ ∀ x : Str, x ≠ "__name__" → mb x = bootBuiltins x
  nolimit : base.NoLimit

/-- the context: a def's body (or a comprehension's block) running. base: fixed through the whole law; s₀, H₀: the entry; outer: the frames whose slots others may change (a def's callers); stack: all frames that run;
   ex: iterators that were made ahead of the entry and are walked here (a comprehension's); fn: the names whose cells were made at the entry (a def: all; a comprehension's block: its own); calm: not within an except suite; pn: pins that every state bears; xe: what is wanted of an exception that leaves the code -/
structure Cx where
  prog : Program
  w : World
  K : PySem.W.Frag
  mg : Str → Option Value
  base : Heap
  A : Around
  N : List Str
  s_0 : Shared
  H_0 : Hp
  env : Env
  outer : List Env
  stack : List Env
  ex : List Addr
  fn : Str → Bool
  calm : Bool
  pn : List (Addr × Obj)
  xe : Value → Shared → Prop
/-- the callers' frames -/
def frs (l : List Env) : List Addr := l.filterMap (·.frame)
abbrev Cx.fs (X : Cx) : List Addr := frs X.outer

def Vis (sc : Scope) (x : Str) : Prop := sc.names.lookup x = some .local ∨ sc.names.lookup x = some .cell ∨ sc.names.lookup x = some .free
def Loc (sc : Scope) (x : Str) : Prop := sc.names.lookup x = some .local ∨ sc.names.lookup x = some .cell
def Look (env : Env) (h : Heap) (m : Str → Option Value) (x : Str) (u : Value) : Prop :=
  (env.kindOf x = some .local ∧ m x = some u) ∨ ((env.kindOf x = some .cell ∨ env.kindOf x = some .free) ∧ ∃ c, env.cells.lookup x = some c ∧ h.IsCell c (some u))

structure Cx.Ok (X : Cx) : Prop where
  mod : Mod X.K X.mg X.base
  kind : X.env.scope.kind = .function
  glob : X.env.globals = mainGlobals
  blt : X.env.builtins = builtinsNs
  above : X.s_0.heap.objs.size ≤ X.env.locals
  inj : ∀ x y c, X.env.cells.lookup x = some c → X.env.cells.lookup y = some c → x = y
  has : ∀ x, (X.env.kindOf x = some .cell ∨ X.env.kindOf x = some .free) → ∃ c, X.env.cells.lookup x = some c
  cab : ∀ x c, X.fn x = true → X.env.cells.lookup x = some c → X.s_0.heap.objs.size ≤ c
  hd : X.calm = true → X.A.handled = none
  frames : X.A.frames = some X.stack
  stk : X.stack = X.outer ∨ (X.stack = X.env :: X.outer ∧ X.env.frame = some X.env.locals)
  exf : ∀ b ∈ X.ex, b ≠ X.env.locals ∧ ∀ x c, X.env.cells.lookup x = some c → c ≠ b
  bs : ∀ b o, X.base.get? b = some o → X.s_0.heap.get? b = some o ∧ X.H_0 b = none
  bsz : X.base.objs.size ≤ X.s_0.heap.objs.size
  noex : ∀ b o, X.base.get? b = some o → b ∉ X.ex
  exfs : ∀ b ∈ X.ex, b ∉ X.fs
  funs : X.s_0.heap.FunFrames X.base X.outer
  frf : ∀ b ∈ X.fs, X.H_0 b = none

structure Inv (X : Cx) (pins : List (Addr × Obj)) (σ : List (Option V)) (H : Hp) (s : Shared) : Prop where
  ok : X.Ok
  os : s.os = X.s_0.os
  bare : AllBare s.gens
  base : Un X.fs X.ex X.H_0 H X.s_0.heap s.heap
  loc : ∃ m, s.heap.Ns X.env.locals m ∧ ∀ (i : Nat) (x : Str) (v : V), X.N[i]? = some x → σ[i]? = some (some v) → Vis X.env.scope x → ∃ u, RelV v u ∧ Look X.env s.heap m x u
  cell : ∀ x c, X.env.cells.lookup x = some c → ∃ v, s.heap.IsCell c v
  free : H X.env.locals = none
  freeC : ∀ x c, X.env.cells.lookup x = some c → H c = none
  pin : ∀ p ∈ X.pn ++ pins, s.heap.get? p.1 = some p.2 ∧ H p.1 = none ∧ p.1 ≠ X.env.locals ∧ p.1 ∉ X.fs ∧ ∀ v, p.2.data ≠ .cell v
  hok : HOk X.prog X.w H s.heap
  len : σ.length = X.N.length

section
variable {X : Cx} {pins : List (Addr × Obj)} {σ : List (Option V)} {H H' : Hp} {s : Shared} {h' : Heap}

theorem Cx.Ok.nofr (ok : X.Ok) {b : Addr} {o : Obj} (e : X.base.get? b = some o) : b ∉ X.fs := fun hb => by
  have := (ok.funs.mem hb).1
  rw [e] at this; cases this
theorem Inv.bs (I : Inv X pins σ H s) : ∀ b o, X.base.get? b = some o → s.heap.get? b = some o ∧ H b = none := fun b o e =>
  ⟨I.base.keep b o (I.ok.bs b o e).1 (I.ok.bs b o e).2 (I.ok.nofr e) (I.ok.noex b o e), I.base.free b o (I.ok.bs b o e).1 (I.ok.bs b o e).2 (I.ok.noex b o e)⟩
theorem Inv.bk (I : Inv X pins σ H s) : ∀ b o, X.base.get? b = some o → s.heap.get? b = some o := fun b o e => (I.bs b o e).1
theorem Inv.mod (I : Inv X pins σ H s) : Mod X.K X.mg X.base := I.ok.mod
theorem Inv.kIn (I : Inv X pins σ H s) : X.K.In s.heap := I.ok.mod.kin.keeps I.bk
theorem Inv.nolimit (I : Inv X pins σ H s) : s.heap.NoLimit := I.ok.mod.nolimit.keeps I.bk
/-- the frame over the base: for OpenK's rules (K.In X.base is I.mod.kin) -/
theorem Inv.fr (I : Inv X pins σ H s) : ∃ m, Fr X.base X.env.locals s.heap m :=
  let ⟨m, hn, _⟩ := I.loc
  ⟨m, hn, I.bk, Nat.le_trans I.ok.bsz I.ok.above⟩
theorem Inv.lt (I : Inv X pins σ H s) : X.env.locals < s.heap.objs.size := let ⟨_, hn, _⟩ := I.loc; hn.lt
theorem Inv.sz (I : Inv X pins σ H s) : X.s_0.heap.objs.size ≤ s.heap.objs.size := Nat.le_trans I.ok.above (Nat.le_of_lt I.lt)
theorem Inv.nofs (I : Inv X pins σ H s) {a : Addr} (h : s.heap.objs.size ≤ a) : a ∉ X.fs := fun hb => by
  obtain ⟨_, o, ho, _⟩ := I.ok.funs.mem hb
  exact absurd (Nat.lt_of_lt_of_le (Heap.lt_size ho) (Nat.le_trans I.sz h)) (Nat.lt_irrefl _)
theorem Inv.cne (I : Inv X pins σ H s) : ∀ x c, X.env.cells.lookup x = some c → c ≠ X.env.locals := fun x c e z => by
  obtain ⟨v, o, ho, hd⟩ := I.cell x c e
  obtain ⟨m, ⟨o', es, ep, ho', hd', _⟩, _⟩ := I.loc
  rw [z, ho'] at ho; cases ho; rw [hd'] at hd; cases hd
theorem Inv.funs (I : Inv X pins σ H s) : s.heap.FunFrames X.base X.outer := by
  have all : ∀ (l : List Env), (∀ b ∈ frs l, b ∈ X.fs) → X.s_0.heap.FunFrames X.base l → s.heap.FunFrames X.base l := by
    intro l
    induction l with
    | nil => intro _ _; trivial
    | cons env r ih =>
      intro hs hl
      obtain ⟨hk, ⟨L, o, hf, hn, ho, hd⟩, hr⟩ := hl
      have hL : L ∈ X.fs := hs L (by unfold frs; rw [List.filterMap_cons, hf]; exact List.mem_cons_self)
      obtain ⟨sl, e⟩ := I.base.slot L o ho (I.ok.frf L hL) hL fun z => I.ok.exfs L z hL
      exact ⟨hk, ⟨L, _, hf, hn, e, hd⟩, ih (fun b hb => hs b (by unfold frs; rw [List.filterMap_cons, hf]; exact List.mem_cons_of_mem _ hb)) hr⟩
  exact all X.outer (fun _ hb => hb) I.ok.funs

/-- the frames that run, for a call -/
theorem Inv.stack (I : Inv X pins σ H s) : s.heap.FunFrames X.base X.stack := by
  rcases I.ok.stk with e | ⟨e, hf⟩
  · rw [e]; exact I.funs
  · rw [e]
    obtain ⟨m, hn, _⟩ := I.loc
    refine .cons (by rw [I.ok.kind]; decide) hf hn ?_ I.funs
    exact Heap.get?_none_of_le (Nat.le_trans I.ok.bsz I.ok.above)
theorem Inv.stkSub (I : Inv X pins σ H s) : ∀ b ∈ frs X.stack, b ∈ X.env.locals :: X.fs := fun b hb => by
  rcases I.ok.stk with e | ⟨e, hf⟩
  · rw [e] at hb; exact List.mem_cons_of_mem _ hb
  · rw [e] at hb
    unfold frs at hb
    rw [List.filterMap_cons, hf] at hb
    exact hb
theorem Inv.stkFree (I : Inv X pins σ H s) : ∀ b ∈ frs X.stack, H b = none := fun b hb => by
  rcases List.mem_cons.mp (I.stkSub b hb) with e | hb
  · rw [e]; exact I.free
  · obtain ⟨_, o, ho, _⟩ := I.ok.funs.mem hb
    exact I.base.free b o ho (I.ok.frf b hb) fun z => I.ok.exfs b z hb

/-- THE STEP: the untracked objects but the frame and the records at ch are kept (the callers' frames up to slots), the frame's map is kept, the new abstract heap is held -/
theorem Inv.step {g' : Array GenState} {t' : Nat} {d' : Drawn} {ch : List Addr} (I : Inv X pins σ H s)
    (hch : ∀ b ∈ ch, (b ∈ X.ex ∨ X.s_0.heap.objs.size ≤ b) ∧ b ≠ X.env.locals ∧ (∀ x c, X.env.cells.lookup x = some c → c ≠ b) ∧ ∀ p ∈ X.pn ++ pins, p.1 ≠ b)
    (keep : ∀ b o, b ≠ X.env.locals → b ∉ X.fs → b ∉ ch → s.heap.get? b = some o → H b = none → h'.get? b = some o)
    (slot : ∀ b o, b ≠ X.env.locals → b ∈ X.fs → b ∉ ch → s.heap.get? b = some o → H b = none → ∃ sl, h'.get? b = some { o with slots := sl }) (free : ∀ b o, b ∉ ch → s.heap.get? b = some o → H b = none → H' b = none)
    (there : ∀ b o, b ∉ ch → s.heap.get? b = some o → ∃ o', h'.get? b = some o')
    (tups : ∀ b xs, H b = some (.tup xs) → H' b = some (.tup xs)) (frzs : ∀ b o u, H b = some (.frz o u) → H' b = some (.frz o u)) (tbls : ∀ b ps, H b = some (.tbl ps) → ∃ more, H' b = some (.tbl (ps ++ more)))
    (ns : ∀ m, s.heap.Ns X.env.locals m → h'.Ns X.env.locals m) (hok : HOk X.prog X.w H' h') (hg : AllBare g') :
    Inv X pins σ H' { s with heap := h', gens := g', drawn := d', toks := t' } := by
  have neL : ∀ b o, X.s_0.heap.get? b = some o → b ≠ X.env.locals := fun b o e => Nat.ne_of_lt (Nat.lt_of_lt_of_le (Heap.lt_size e) I.ok.above)
  have neC : ∀ b o, X.s_0.heap.get? b = some o → b ∉ X.ex → b ∉ ch := fun b o e hx hb => by
    rcases (hch b hb).1 with z | z
    · exact hx z
    · exact absurd (Nat.lt_of_lt_of_le (Heap.lt_size e) z) (Nat.lt_irrefl _)
  have cellK : ∀ x c, X.env.cells.lookup x = some c → ∀ v, s.heap.IsCell c v → h'.IsCell c v := fun x c e v ⟨o, ho, hd⟩ => by
    have nch : c ∉ ch := fun z => (hch c z).2.2.1 x c e rfl
    by_cases hc : c ∈ X.fs
    · obtain ⟨sl, q⟩ := slot c o (I.cne x c e) hc nch ho (I.freeC x c e)
      exact ⟨_, q, hd⟩
    · exact ⟨o, keep c o (I.cne x c e) hc nch ho (I.freeC x c e), hd⟩
  refine ⟨I.ok, I.os, hg, ⟨fun b o e n hb hx => ?_, fun b o e n hb hx => ?_, fun b o e n hx => ?_, fun b o e hx => ?_, fun b xs e => tups b xs (I.base.tups b xs e), fun b o xs e => frzs b o xs (I.base.frzs b o xs e), fun b ps e => ?_⟩, ?_, fun x c e => ?_, ?_, fun x c e => ?_, fun p hp => ?_, hok, I.len⟩
  · exact keep b o (neL b o e) hb (neC b o e hx) (I.base.keep b o e n hb hx) (I.base.free b o e n hx)
  · obtain ⟨sl, e1⟩ := I.base.slot b o e n hb hx
    obtain ⟨sl', e2⟩ := slot b _ (neL b o e) hb (neC b o e hx) e1 (I.base.free b o e n hx)
    exact ⟨sl', e2⟩
  · obtain ⟨o', e1⟩ := I.base.there b o e hx
    exact free b o' (neC b o e hx) e1 (I.base.free b o e n hx)
  · obtain ⟨o', e1⟩ := I.base.there b o e hx
    exact there b o' (neC b o e hx) e1
  · obtain ⟨m1, e1⟩ := I.base.tbls b ps e
    obtain ⟨m2, e2⟩ := tbls b _ e1
    exact ⟨m1 ++ m2, by rw [e2, Array.append_assoc]⟩
  · obtain ⟨m, hn, hl⟩ := I.loc
    refine ⟨m, ns m hn, fun i x v e1 e2 e3 => ?_⟩
    obtain ⟨u, r, l⟩ := hl i x v e1 e2 e3
    refine ⟨u, r, ?_⟩
    rcases l with l | ⟨k, c, e, z⟩
    · exact .inl l
    · exact .inr ⟨k, c, e, cellK x c e _ z⟩
  · obtain ⟨v, z⟩ := I.cell x c e
    exact ⟨v, cellK x c e v z⟩
  · obtain ⟨m, ⟨o, _, _, ho, _⟩, _⟩ := I.loc
    exact free _ o (fun z => (hch _ z).2.1 rfl) ho I.free
  · obtain ⟨v, o, ho, hd⟩ := I.cell x c e
    exact free c o (fun z => (hch c z).2.2.1 x c e rfl) ho (I.freeC x c e)
  · obtain ⟨e, n, ne, nf, d⟩ := I.pin p hp
    have nch : p.1 ∉ ch := fun z => (hch p.1 z).2.2.2 p hp rfl
    exact ⟨keep p.1 p.2 ne nf nch e n, free p.1 p.2 nch e n, ne, nf, d⟩
/-- .. where the frame's own object is kept too -/
theorem Inv.un {t' : Nat} (I : Inv X pins σ H s) (u : Un X.fs [] H H' s.heap h') (hok : HOk X.prog X.w H' h') : Inv X pins σ H' { s with heap := h', toks := t' } := by
  obtain ⟨m, ⟨o, es, ep, ho, r⟩, _⟩ := id I.loc
  obtain ⟨sl, hL⟩ := u.any ho I.free (by simp)
  exact I.step (g' := s.gens) (d' := s.drawn) (ch := []) (fun _ z => nomatch z) (fun b o _ hb _ e n => u.keep b o e n hb (by simp)) (fun b o _ hb _ e n => u.slot b o e n hb (by simp)) (fun b o _ e n => u.free b o e n (by simp)) (fun b o _ e => u.there b o e (by simp)) u.tups u.frzs u.tbls (fun m' hm => by
    obtain ⟨o', es', ep', ho', r'⟩ := hm
    rw [ho] at ho'; cases ho'
    exact ⟨_, es', ep', hL, r'⟩) hok I.bare
/-- behind a call (or a comprehension's block): the slots of this frame may have changed too, the records at ch may have turned -/
theorem Inv.call {g' : Array GenState} {t' : Nat} {d' : Drawn} {ch : List Addr} (I : Inv X pins σ H s) (u : Un (frs X.stack) ch H H' s.heap h') (hok : HOk X.prog X.w H' h') (hg : AllBare g')
    (hch : ∀ b ∈ ch, (b ∈ X.ex ∨ X.s_0.heap.objs.size ≤ b) ∧ b ≠ X.env.locals ∧ (∀ x c, X.env.cells.lookup x = some c → c ≠ b) ∧ ∀ p ∈ X.pn ++ pins, p.1 ≠ b) :
    Inv X pins σ H' { s with heap := h', gens := g', drawn := d', toks := t' } := by
  obtain ⟨m, ⟨o, es, ep, ho, r⟩, _⟩ := id I.loc
  obtain ⟨sl, hL⟩ := u.any ho I.free fun z => (hch _ z).2.1 rfl
  exact I.step (ch := ch) hch (fun b o hL hb hc e n => u.keep b o e n (fun z => (List.mem_cons.mp (I.stkSub b z)).elim hL hb) hc) (fun b o _ _ hc e n => u.any e n hc) (fun b o hc e n => u.free b o e n hc) (fun b o hc e => u.there b o e hc) u.tups u.frzs u.tbls (fun m' hm => by
    obtain ⟨o', es', ep', ho', r'⟩ := hm
    rw [ho] at ho'; cases ho'
    exact ⟨_, es', ep', hL, r'⟩) hok hg
/-- an untracked record of ours (an iterator) has turned -/
theorem Inv.turned {t' : Nat} {it : Addr} (I : Inv X pins σ H s) (k : ∀ b o, b ≠ it → s.heap.get? b = some o → h'.get? b = some o) (hn : H it = none) (hL : it ≠ X.env.locals)
    (h1 : it ∈ X.ex ∨ X.s_0.heap.objs.size ≤ it) (h2 : ∀ x c, X.env.cells.lookup x = some c → c ≠ it) (h3 : ∀ p ∈ X.pn ++ pins, p.1 ≠ it) : Inv X pins σ H { s with heap := h', toks := t' } := by
  have nit : ∀ b u, H b = some u → b ≠ it := fun b u e z => by rw [z, hn] at e; cases e
  refine I.step (g' := s.gens) (d' := s.drawn) (ch := [it]) (fun b hb => ?_) (fun b o _ _ hc e _ => k b o (fun z => hc (by simp [z])) e) (fun b o _ _ hc e _ => ⟨o.slots, k b o (fun z => hc (by simp [z])) e⟩) (fun _ _ _ _ n => n)
    (fun b o hc e => ⟨o, k b o (fun z => hc (by simp [z])) e⟩) (fun _ _ e => e) (fun _ _ _ e => e) (fun b ps e => ⟨#[], by rw [e]; simp⟩) (fun m hm => ?_) (fun b u e => ?_) I.bare
  · have e : b = it := by simpa using hb
    subst e
    exact ⟨h1, hL, h2, h3⟩
  · obtain ⟨o, es, ep, ho, r⟩ := hm
    exact ⟨o, es, ep, k _ o (Ne.symm hL) ho, r⟩
  · refine (I.hok b u e).stay (fun c v hc q => k c v ?_ q) (fun _ q => q) fun _ _ q => q
    rcases hc with z | z
    · rw [z]; exact nit b u e
    · exact nit c _ z
theorem Inv.tok (I : Inv X pins σ H s) (t : Nat) : Inv X pins σ H { s with toks := t } := I.un (h' := s.heap) (t' := t) Un.refl I.hok
/-- all objects kept -/
theorem Inv.kept {t' : Nat} (I : Inv X pins σ H s) (k : ∀ b u, s.heap.get? b = some u → h'.get? b = some u) : Inv X pins σ H { s with heap := h', toks := t' } := I.un (Un.kept k) (I.hok.kept k)
/-- a new object laid and tracked -/
theorem Inv.laid {a : Addr} {o : HO} {t' : Nat} (I : Inv X pins σ H s) (k : ∀ b u, s.heap.get? b = some u → h'.get? b = some u) (hp : s.heap.objs.size ≤ a) (new : ObjOk X.prog X.w (upd H a o) h' a o) :
    Inv X pins σ (upd H a o) { s with heap := h', toks := t' } := I.un (Un.laid k hp (I.hok.fresh hp)) (I.hok.laid k hp new)
/-- an object written -/
theorem Inv.write {x e : Addr} {o : HO} {t' : Nat} (I : Inv X pins σ H s) (mu : Mut (H x)) (he : e = x ∨ H e = some (.own x)) (k : ∀ b u, b ≠ e → s.heap.get? b = some u → h'.get? b = some u) (heo : ∃ u, h'.get? e = some u)
    (new : ObjOk X.prog X.w (upd H x o) h' x o) : Inv X pins σ (upd H x o) { s with heap := h', toks := t' } := I.un (Un.write mu he k heo) (I.hok.write mu he k heo new)
/-- forgetting slots, pins -/
theorem Inv.weak {σ' : List (Option V)} (I : Inv X pins σ H s) (hl : σ'.length = σ.length) (w : ∀ (i : Nat) v, σ'[i]? = some (some v) → σ[i]? = some (some v)) : Inv X pins σ' H s :=
  ⟨I.ok, I.os, I.bare, I.base, let ⟨m, hn, hl'⟩ := I.loc; ⟨m, hn, fun i x v e1 e2 e3 => hl' i x v e1 (w i v e2) e3⟩, I.cell, I.free, I.freeC, I.pin, I.hok, hl.trans I.len⟩
theorem Inv.pins_of {pins' : List (Addr × Obj)} (I : Inv X pins σ H s) (h : ∀ p ∈ pins', s.heap.get? p.1 = some p.2 ∧ H p.1 = none ∧ p.1 ≠ X.env.locals ∧ p.1 ∉ X.fs ∧ ∀ v, p.2.data ≠ .cell v) : Inv X pins' σ H s :=
  ⟨I.ok, I.os, I.bare, I.base, I.loc, I.cell, I.free, I.freeC, fun p hp => (List.mem_append.mp hp).elim (fun z => I.pin p (List.mem_append_left _ z)) (h p), I.hok, I.len⟩

theorem nodup_ix {N : List Str} (hN : N.Nodup) {i j : Nat} {x : Str} (a : N[i]? = some x) (b : N[j]? = some x) : i = j := by
  obtain ⟨h1, e1⟩ := List.getElem?_eq_some_iff.mp a
  obtain ⟨h2, e2⟩ := List.getElem?_eq_some_iff.mp b
  exact (List.getElem_inj hN).mp (e1.trans e2.symm)

/-- a name is stored; what changed -/
theorem store_ok2 {M : Model} {A : Around} {E : Value → Shared → Prop} {i : Nat} {x : Str} {v : V} {u : Value} {Q : Unit → Shared → Prop} (I : Inv X pins σ H s) (hN : X.N.Nodup) (hi : X.N[i]? = some x) (hx : Loc X.env.scope x) (r : RelV v u)
    (h : ∀ s', Inv X pins (σ.set i (some v)) H s' → (∃ a, Heap.SameBut a s.heap s'.heap ∧ (a = X.env.locals ∨ X.env.cells.lookup x = some a)) → Q () s') (hf : X.fn x = true ∨ X.env.scope.names.lookup x = some .local := by first | exact .inl rfl | exact .inr rfl | assumption) : wpAny M A (storeName X.env x u) Q E s := by
  obtain ⟨m, hn, hl⟩ := id I.loc
  have hcls : (X.env.scope.kind == .class || (X.env.scope.kind == .module && X.env.locals != X.env.globals)) = false := by rw [I.ok.kind]; rfl
  have hiσ : i < σ.length := by rw [I.len]; exact (List.getElem?_eq_some_iff.mp hi).1
  have cne := I.cne
  have tracked : ∀ {a : Addr} {h' : Heap}, (∃ o, s.heap.get? a = some o ∧ H a = none) → Heap.SameBut a s.heap h' → HOk X.prog X.w H h' := fun {a h'} ha hs b ob e => by
    obtain ⟨_, _, hfree⟩ := ha
    refine (I.hok b ob e).stay (fun c w' hc q => (hs.2 c ?_).trans q) (fun _ q => q) fun _ _ q => q
    rintro rfl
    rcases hc with rfl | hc
    · rw [hfree] at e; cases e
    · rw [hfree] at hc; cases hc
  rcases hx with hk | hk
  · refine wpAny_storeName_local hk hn (fun h' hn' hs => ?_) hcls
    obtain ⟨oL, _, _, hoL, _⟩ := id hn
    refine h _ ⟨I.ok, I.os, I.bare, ⟨fun b o e n hb hx => ?_, fun b o e n hb hx => ?_, I.base.free, fun b o e hx => ?_, I.base.tups, I.base.frzs, I.base.tbls⟩, ⟨_, hn', fun j y v' e1 e2 e3 => ?_⟩, fun y c e => ?_, I.free, I.freeC, fun p hp => ?_, tracked ⟨oL, hoL, I.free⟩ hs, by simpa using I.len⟩ ⟨_, hs, .inl rfl⟩
    · exact (hs.2 b (Nat.ne_of_lt (Nat.lt_of_lt_of_le (Heap.lt_size e) I.ok.above))).trans (I.base.keep b o e n hb hx)
    · obtain ⟨sl, e1⟩ := I.base.slot b o e n hb hx
      exact ⟨sl, (hs.2 b (Nat.ne_of_lt (Nat.lt_of_lt_of_le (Heap.lt_size e) I.ok.above))).trans e1⟩
    · obtain ⟨o', e1⟩ := I.base.there b o e hx
      exact ⟨o', (hs.2 b (Nat.ne_of_lt (Nat.lt_of_lt_of_le (Heap.lt_size e) I.ok.above))).trans e1⟩
    · by_cases hj : j = i
      · subst hj
        rw [hi] at e1; cases e1
        rw [List.getElem?_set_self hiσ] at e2
        cases e2
        exact ⟨u, r, .inl ⟨hk, by simp⟩⟩
      · rw [List.getElem?_set_ne (Ne.symm hj)] at e2
        obtain ⟨u', r', q⟩ := hl j y v' e1 e2 e3
        refine ⟨u', r', ?_⟩
        rcases q with ⟨k, e⟩ | ⟨k, c, e, z⟩
        · refine .inl ⟨k, ?_⟩
          have : y ≠ x := fun e => hj (nodup_ix hN e1 (e ▸ hi))
          simp [this, e]
        · exact .inr ⟨k, c, e, z.sameBut hs (cne y c e)⟩
    · obtain ⟨w', z⟩ := I.cell y c e
      exact ⟨w', z.sameBut hs (cne y c e)⟩
    · obtain ⟨e, n, ne, nf, d⟩ := I.pin p hp
      exact ⟨(hs.2 p.1 ne).trans e, n, ne, nf, d⟩
  · have hfn : X.fn x = true := by
      rcases hf with z | z
      · exact z
      · rw [z] at hk; cases hk
    obtain ⟨c, hc⟩ := I.ok.has x (.inl hk)
    obtain ⟨w', z⟩ := I.cell x c hc
    refine wpAny_storeName_cell I.ok.kind hk hc z (fun h' hc' hs => ?_)
    obtain ⟨oc, hoc, hocd⟩ := id z
    refine h { s with heap := h' } ⟨I.ok, I.os, I.bare, ⟨fun b o e n hb hx => ?_, fun b o e n hb hx => ?_, I.base.free, fun b o e hx => ?_, I.base.tups, I.base.frzs, I.base.tbls⟩, ⟨m, hn.sameBut hs (Ne.symm (cne x c hc)), fun j y v' e1 e2 e3 => ?_⟩, fun y c' e => ?_, I.free, I.freeC, fun p hp => ?_, tracked ⟨oc, hoc, I.freeC x c hc⟩ hs, by simpa using I.len⟩ ⟨c, hs, .inr hc⟩
    · exact (hs.2 b (Nat.ne_of_lt (Nat.lt_of_lt_of_le (Heap.lt_size e) (I.ok.cab x c hfn hc)))).trans (I.base.keep b o e n hb hx)
    · obtain ⟨sl, e1⟩ := I.base.slot b o e n hb hx
      exact ⟨sl, (hs.2 b (Nat.ne_of_lt (Nat.lt_of_lt_of_le (Heap.lt_size e) (I.ok.cab x c hfn hc)))).trans e1⟩
    · obtain ⟨o', e1⟩ := I.base.there b o e hx
      exact ⟨o', (hs.2 b (Nat.ne_of_lt (Nat.lt_of_lt_of_le (Heap.lt_size e) (I.ok.cab x c hfn hc)))).trans e1⟩
    · by_cases hj : j = i
      · subst hj
        rw [hi] at e1; cases e1
        rw [List.getElem?_set_self hiσ] at e2
        cases e2
        exact ⟨u, r, .inr ⟨.inl hk, c, hc, hc'⟩⟩
      · rw [List.getElem?_set_ne (Ne.symm hj)] at e2
        obtain ⟨u', r', q⟩ := hl j y v' e1 e2 e3
        refine ⟨u', r', ?_⟩
        rcases q with q | ⟨k, c', e, z'⟩
        · exact .inl q
        · refine .inr ⟨k, c', e, z'.sameBut hs ?_⟩
          rintro rfl
          exact hj (nodup_ix hN e1 (I.ok.inj _ _ _ e hc ▸ hi))
    · by_cases hcc : c' = c
      · subst hcc; exact ⟨_, hc'⟩
      · obtain ⟨w2, z2⟩ := I.cell y c' e
        exact ⟨w2, z2.sameBut hs hcc⟩
    · obtain ⟨e, n, ne, nf, d⟩ := I.pin p hp
      refine ⟨(hs.2 p.1 ?_).trans e, n, ne, nf, d⟩
      intro q
      rw [q, hoc] at e
      have q' : oc = p.2 := Option.some.inj e
      exact d w' (by rw [← q']; exact hocd)
theorem store_ok {M : Model} {A : Around} {E : Value → Shared → Prop} {i : Nat} {x : Str} {v : V} {u : Value} {Q : Unit → Shared → Prop} (I : Inv X pins σ H s) (hN : X.N.Nodup) (hi : X.N[i]? = some x) (hx : Loc X.env.scope x) (r : RelV v u)
    (h : ∀ s', Inv X pins (σ.set i (some v)) H s' → Q () s') (hf : X.fn x = true ∨ X.env.scope.names.lookup x = some .local := by first | exact .inl rfl | exact .inr rfl | assumption) : wpAny M A (storeName X.env x u) Q E s :=
  store_ok2 I hN hi hx r (fun s' I' _ => h s' I') hf
/-- behind a call or a block, the state as it is -/
theorem Inv.call' {s' : Shared} {ch : List Addr} (I : Inv X pins σ H s) (ho : s'.os = s.os) (u : Un (frs X.stack) ch H H' s.heap s'.heap) (hok : HOk X.prog X.w H' s'.heap) (hg : AllBare s'.gens)
    (hch : ∀ b ∈ ch, (b ∈ X.ex ∨ X.s_0.heap.objs.size ≤ b) ∧ b ≠ X.env.locals ∧ (∀ x c, X.env.cells.lookup x = some c → c ≠ b) ∧ ∀ p ∈ X.pn ++ pins, p.1 ≠ b) : Inv X pins σ H' s' := by
  obtain ⟨h', g', d', t', o'⟩ := s'
  have e : o' = s.os := ho
  subst e
  exact I.call (g' := g') (t' := t') (d' := d') u hok hg hch
end

/-! ### the judgements -/
/-- an exception: its class, its own dict's address (where it has one), the abstract heap behind it -/
abbrev XK := Value → Option Addr → Hp → Prop
abbrev St := List (Option V)
abbrev VK := V → Hp → Prop
/-- an expression's reading; a test's; an argument list's -/
abbrev TE := St → Hp → VK → Prop
abbrev TT := St → Hp → (Bool → Hp → Prop) → Prop
abbrev TA := St → Hp → (List V → Hp → Prop) → Prop
/-- what is wanted behind a statement -/
structure Ends where
  nx : St → Hp → Prop
  rt : VK
  bk : St → Hp → Prop := fun _ _ => False
  ct : St → Hp → Prop := fun _ _ => False
abbrev TS := Ends → St → Hp → Prop

def EP (X : Cx) (pins : List (Addr × Obj)) (σ : St) (Q : VK) (u : Value) (s' : Shared) : Prop := ∃ v H', Inv X pins σ H' s' ∧ RelV v u ∧ Q v H'
def TP (X : Cx) (pins : List (Addr × Obj)) (σ : St) (Q : Bool → Hp → Prop) (b : Bool) (s' : Shared) : Prop := ∃ H', Inv X pins σ H' s' ∧ Q b H'
def AP (X : Cx) (pins : List (Addr × Obj)) (σ : St) (Q : List V → Hp → Prop) (us : List Value) (s' : Shared) : Prop := ∃ vs H', Inv X pins σ H' s' ∧ Vals vs us ∧ Q vs H'
def SP (X : Cx) (pins : List (Addr × Obj)) (D : Ends) (f : Flow) (s' : Shared) : Prop :=
  match f with
  | .next => ∃ σ' H', Inv X pins σ' H' s' ∧ D.nx σ' H'
  | .brk => ∃ σ' H', Inv X pins σ' H' s' ∧ D.bk σ' H'
  | .cont => ∃ σ' H', Inv X pins σ' H' s' ∧ D.ct σ' H'
  | .ret u => ∃ v σ' H', Inv X pins σ' H' s' ∧ RelV v u ∧ D.rt v H'

def PE (X : Cx) (e : Expr) (t : TE) : Prop :=
  ∀ (pins : List (Addr × Obj)) (s : Shared) (σ : St) (H : Hp) (Q : VK), Inv X pins σ H s → t σ H Q → wpAny (model X.prog X.w) X.A (eval e X.env) (EP X pins σ Q) X.xe s
def PT (X : Cx) (e : Expr) (t : TT) : Prop :=
  ∀ (pins : List (Addr × Obj)) (s : Shared) (σ : St) (H : Hp) (Q : Bool → Hp → Prop), Inv X pins σ H s → t σ H Q → wpAny (model X.prog X.w) X.A (isTrue e X.env (eval e X.env)) (TP X pins σ Q) X.xe s
/-- a test whatever its 'whole' is (and, or) -/
def PW (X : Cx) (e : Expr) (t : TT) : Prop :=
  ∀ (whole : Sem Value) (pins : List (Addr × Obj)) (s : Shared) (σ : St) (H : Hp) (Q : Bool → Hp → Prop), Inv X pins σ H s → t σ H Q → wpAny (model X.prog X.w) X.A (isTrue e X.env whole) (TP X pins σ Q) X.xe s
theorem PW.pt {X : Cx} {e : Expr} {t : TT} (h : PW X e t) : PT X e t := h _
/-- an argument list (no star), from the left -/
def PA (X : Cx) (es : List Expr) (t : TA) : Prop :=
  ∀ (pos : Pos) (pins : List (Addr × Obj)) (s : Shared) (σ : St) (H : Hp) (Q : List V → Hp → Prop), Inv X pins σ H s → t σ H Q → wpAny (model X.prog X.w) X.A (spliced (backTo pos (starEach es X.env))) (AP X pins σ Q) X.xe s
def PS (X : Cx) (st : Stmt) (t : TS) : Prop :=
  ∀ (pins : List (Addr × Obj)) (s : Shared) (σ : St) (H : Hp) (D : Ends), Inv X pins σ H s → t D σ H → wpAny (model X.prog X.w) X.A (exec st X.env) (SP X pins D) X.xe s
def PSs (X : Cx) (st : List Stmt) (t : TS) : Prop :=
  ∀ (pins : List (Addr × Obj)) (s : Shared) (σ : St) (H : Hp) (D : Ends), Inv X pins σ H s → t D σ H → wpAny (model X.prog X.w) X.A (execs st X.env) (SP X pins D) X.xe s
/-- weaken the end -/
theorem thn {α : Type} {t : Sem α} {Q Q' : α → Shared → Prop} {M : Model} {A : Around} {E : Value → Shared → Prop} {s : Shared} (h : wpAny M A t Q E s) (hQ : ∀ a s, Q a s → Q' a s) : wpAny M A t Q' E s := wpAny_mono h hQ fun _ _ x => x
end L2

namespace L2
open PySem PySem.Spec PyProof.Rows
section
variable {X : Cx}

/-! ### names and constants -/
def tVar (i : Nat) : TE := fun σ H Q => ∃ v, σ[i]? = some (some v) ∧ Q v H
def tC (v : V) : TE := fun _ H Q => Q v H
theorem pe_var {i : Nat} {x : Str} {pos : Pos} (hN : X.N[i]? = some x) (hv : Vis X.env.scope x) (hd : (x == ("__debug__" : Str)) = false := by decide) (hcd : (x == ("__classdict__" : Str)) = false := by decide) : PE X (.Name x pos) (tVar i) := by
  intro pins s σ H Q I h
  obtain ⟨v, e, h⟩ := h
  obtain ⟨m, hn, hl⟩ := I.loc
  obtain ⟨u, r, l⟩ := hl i x v hN e hv
  have fin : EP X pins σ Q u s := ⟨v, H, I, r, h⟩
  rcases l with ⟨hk, hm⟩ | ⟨hk, c, hc, hcell⟩
  · exact wpAny_Name (wpAny_loadName_local I.ok.kind hk hn hm fin) hd
  · rcases hk with hk | hk
    · exact wpAny_Name (wpAny_loadName_cell I.ok.kind hk hc hcell fin) hd
    · exact wpAny_Name (wpAny_loadName_free I.ok.kind hk hc hcell fin hcd) hd
theorem pe_int {i j pos} : PE X (.Constant (.int i) j pos) (tC (.int i)) := fun _ _ _ H _ I h => wpAny_Constant_int ⟨.int i, H, I.tok _, ⟨_, rfl⟩, h⟩
/-- a global name of the def -/
def Gl (X : Cx) (x : Str) : Prop := X.env.kindOf x = some .globalImplicit
theorem ld_glob {E : Value → Shared → Prop} {pins : List (Addr × Obj)} {s : Shared} {σ : St} {H : Hp} {x : Str} {u : Value} {pos : Pos} {Q : Value → Shared → Prop} (I : Inv X pins σ H s) (hg : Gl X x) (hm : X.mg x = some u) (h : Q u s)
    (hd : (x == ("__debug__" : Str)) = false := by decide) : wpAny (model X.prog X.w) X.A (eval (.Name x pos) X.env) Q E s :=
  Calls.Name_function_global I.ok.kind hg (Calls.loadGlobal_global (by rw [I.ok.glob]; exact I.mod.glob.keeps I.bk) hm h) hd
theorem ld_blt {E : Value → Shared → Prop} {pins : List (Addr × Obj)} {s : Shared} {σ : St} {H : Hp} {x : Str} {u : Value} {pos : Pos} {Q : Value → Shared → Prop} (I : Inv X pins σ H s) (hg : Gl X x) (hm : X.mg x = none) (hv : bootBuiltins x = some u) (h : Q u s)
    (hn : x ≠ "__name__" := by decide) (hd : (x == ("__debug__" : Str)) = false := by decide) : wpAny (model X.prog X.w) X.A (eval (.Name x pos) X.env) Q E s := by
  obtain ⟨mb, h1, h2⟩ := I.mod.blt
  exact Calls.Name_function_global I.ok.kind hg (Calls.loadGlobal_builtin (by rw [I.ok.glob]; exact I.mod.glob.keeps I.bk) hm (by rw [I.ok.blt]; exact h1.keeps I.bk) ((h2 x hn).trans hv) h) hd
/-- a module's constant, a class, a function, as a value -/
theorem pe_glob {x : Str} {v : V} {u : Value} {pos : Pos} (hg : Gl X x) (hm : X.mg x = some u) (r : RelV v u) (hd : (x == ("__debug__" : Str)) = false := by decide) : PE X (.Name x pos) (tC v) :=
  fun _ _ _ H _ I h => ld_glob I hg hm ⟨v, H, I, r, h⟩ hd
/-! ### arithmetic -/
variable {a b : Expr} {ta tb : TE} {pos : Pos}
/-! ### comparisons -/
/-- a comparison as a value, as a test -/
def tB (t : TE) : TT := fun σ H Q => t σ H fun x H1 => ∃ c, x = .bl c ∧ Q c H1
/-- an expression whose value is a bool, as a test -/
theorem pt_val {e : Expr} {t : TE} (h : PE X e t) (he : ∀ whole, isTrue e X.env whole = (do let v ← whole; standAt e.pos; holding [v] (truthy v)) := by intro _; rfl) : PT X e (tB t) := by
  intro pins s σ H Q I hw
  refine isTrue_plain (thn (h pins s σ H _ I hw) fun v s1 ⟨x, H1, I1, r1, q1⟩ => ?_) (he _)
  obtain ⟨d, rfl, q⟩ := q1
  cases r1
  exact wpAny_truthy_bool ⟨H1, I1, q⟩

/-! ### and, or, not -/
variable {tA tB' : TT} {rest : List Expr}
def tAnd (t u : TT) : TT := fun σ H Q => t σ H fun c H1 => if c = true then u σ H1 Q else Q false H1
def tOr (t u : TT) : TT := fun σ H Q => t σ H fun c H1 => if c = true then Q true H1 else u σ H1 Q
def tNot (t : TT) : TT := fun σ H Q => t σ H fun c H1 => Q (!c) H1
theorem pw_and1 (ha : PT X a tA) : PW X (.BoolOp .And [a] pos) tA := by
  intro wh pins s σ H Q I h
  refine isTrue_and (thn (ha pins s σ H Q I h) fun c s1 e => ?_)
  cases c with
  | true => exact isTrue_and_nil e
  | false => exact e
theorem pw_or1 (ha : PT X a tA) : PW X (.BoolOp .Or [a] pos) tA := by
  intro wh pins s σ H Q I h
  refine isTrue_or (thn (ha pins s σ H Q I h) fun c s1 e => ?_)
  cases c with
  | false => exact isTrue_or_nil e
  | true => exact e
theorem pw_and (ha : PT X a tA) (hb : PW X (.BoolOp .And (b :: rest) pos) tB') : PW X (.BoolOp .And (a :: b :: rest) pos) (tAnd tA tB') := by
  intro wh pins s σ H Q I h
  refine isTrue_and (thn (ha pins s σ H _ I h) fun c s1 ⟨H1, I1, q1⟩ => ?_)
  cases c with
  | true => exact hb wh pins s1 σ H1 Q I1 q1
  | false => exact ⟨H1, I1, q1⟩
theorem pw_or (ha : PT X a tA) (hb : PW X (.BoolOp .Or (b :: rest) pos) tB') : PW X (.BoolOp .Or (a :: b :: rest) pos) (tOr tA tB') := by
  intro wh pins s σ H Q I h
  refine isTrue_or (thn (ha pins s σ H _ I h) fun c s1 ⟨H1, I1, q1⟩ => ?_)
  cases c with
  | true => exact ⟨H1, I1, q1⟩
  | false => exact hb wh pins s1 σ H1 Q I1 q1
theorem pt_not (ha : PT X a tA) : PT X (.UnaryOp .Not a pos) (tNot tA) := by
  intro pins s σ H Q I h
  exact isTrue_not (ha pins s σ H (fun c H1 => Q (!c) H1) I h)
end
end L2

namespace L2
open PySem PySem.Spec PyProof.Rows

/-! ### a list, a tuple that is read: tracked, frozen, or an object of the module -/
def SqL (K : PySem.W.Frag) (H : Hp) (a : Addr) (xs : List V) : Prop :=
  Rd H a (.lst xs) ∨
    ∃ (o : Obj) (its : Array Value) (n : Nat), K.lookup a = some o ∧ o.cls = .type "list" ∧ o.dict = none ∧ o.data = .seq its n ∧ its.size ≤ sizeLine ∧ Vals xs its.toList
def SqT (K : PySem.W.Frag) (H : Hp) (a : Addr) (xs : List V) : Prop :=
  Rd H a (.tup xs) ∨
    ∃ (o : Obj) (its : Array Value) (n : Nat), K.lookup a = some o ∧ o.cls = .type "tuple" ∧ o.data = .seq its n ∧ its.size ≤ sizeLine ∧ Vals xs its.toList
def absV : Value → Option V
  | .none => some .non
  | .bool b => some (.bl b)
  | .int i _ => some (.int i)
  | .str x _ => some (.str x)
  | .bytes b _ => some (.byt b)
  | .float b _ => some (.flt b)
  | .ref a => some (.ref a)
  | .type n => some (.ty n)
  | _ => none
theorem RelV.abs {x : V} {u : Value} (r : RelV x u) : absV u = some x := by
  cases x with
  | non => cases r; rfl
  | bl _ => cases r; rfl
  | int _ => obtain ⟨t, rfl⟩ := r; rfl
  | str _ => obtain ⟨t, rfl⟩ := r; rfl
  | byt _ => obtain ⟨t, rfl⟩ := r; rfl
  | flt _ => obtain ⟨t, rfl⟩ := r; rfl
  | ref _ => cases r; rfl
  | ty _ => cases r; rfl
theorem RelV.inj {x y : V} {u : Value} (r : RelV x u) (q : RelV y u) : x = y := Option.some.inj (r.abs.symm.trans q.abs)
theorem Vals.inj : ∀ {xs ys : List V} {us : List Value}, Vals xs us → Vals ys us → xs = ys
  | _, _, _, .nil, .nil => rfl
  | _, _, _, .cons r t, .cons r' t' => by rw [r.inj r', Vals.inj t t']
section
variable {X : Cx} {pins : List (Addr × Obj)} {σ : St} {H : Hp} {s : Shared} {a : Addr} {xs ys : List V}
theorem SqL.of {K : PySem.W.Frag} (h : H a = some (.lst xs)) : SqL K H a xs := .inl (.inl h)
theorem SqT.of {K : PySem.W.Frag} (h : H a = some (.tup xs)) : SqT K H a xs := .inl (.inl h)
theorem Inv.list (I : Inv X pins σ H s) (h : SqL X.K H a xs) : ∃ its : List Value, Vals xs its ∧ PlainL s.heap a its.toArray ∧ xs.length ≤ sizeLine := by
  rcases h with h | ⟨o, its, n, hk, hc, hd, hs, hz, r⟩
  · obtain ⟨z, its, n, r, e⟩ := h.ok I.hok
    exact ⟨its, r, ⟨_, n, e, rfl, rfl, rfl⟩, z⟩
  · refine ⟨its.toList, r, ⟨o, n, I.kIn a o hk, hc, hd, by simpa using hs⟩, ?_⟩
    have e := r.length
    simp only [Array.length_toList] at e
    omega
theorem Inv.tuple (I : Inv X pins σ H s) (h : SqT X.K H a xs) : ∃ its : List Value, Vals xs its ∧ IsTup s.heap a its.toArray ∧ xs.length ≤ sizeLine := by
  rcases h with h | ⟨o, its, n, hk, hc, hs, hz, r⟩
  · obtain ⟨z, its, r, p⟩ := h.ok I.hok
    exact ⟨its, r, p.tup, z⟩
  · refine ⟨its.toList, r, ⟨o, I.kIn a o hk, hc, n, by simpa using hs⟩, ?_⟩
    have e := r.length
    simp only [Array.length_toList] at e
    omega
end

/-! ### another wish about exceptions -/
abbrev Cx.wish (X : Cx) (E : Value → Shared → Prop) : Cx := { X with xe := E }
/-- no exception leaves -/
abbrev Cx.nox (X : Cx) : Cx := X.wish fun _ _ => False
theorem Cx.Ok.wish {X : Cx} (ok : X.Ok) (E : Value → Shared → Prop) : (X.wish E).Ok :=
  ⟨ok.mod, ok.kind, ok.glob, ok.blt, ok.above, ok.inj, ok.has, ok.cab, ok.hd, ok.frames, ok.stk, ok.exf, ok.bs, ok.bsz, ok.noex, ok.exfs, ok.funs, ok.frf⟩
theorem Cx.Ok.unwish {X : Cx} {E : Value → Shared → Prop} (ok : (X.wish E).Ok) : X.Ok :=
  ⟨ok.mod, ok.kind, ok.glob, ok.blt, ok.above, ok.inj, ok.has, ok.cab, ok.hd, ok.frames, ok.stk, ok.exf, ok.bs, ok.bsz, ok.noex, ok.exfs, ok.funs, ok.frf⟩
section
variable {X : Cx} {pins : List (Addr × Obj)} {σ : St} {H : Hp} {s : Shared} {E : Value → Shared → Prop}
theorem Inv.wish (I : Inv X pins σ H s) (E : Value → Shared → Prop) : Inv (X.wish E) pins σ H s := ⟨I.ok.wish E, I.os, I.bare, I.base, I.loc, I.cell, I.free, I.freeC, I.pin, I.hok, I.len⟩
theorem Inv.unwish (I : Inv (X.wish E) pins σ H s) : Inv X pins σ H s := ⟨I.ok.unwish, I.os, I.bare, I.base, I.loc, I.cell, I.free, I.freeC, I.pin, I.hok, I.len⟩
theorem SP.unwish {D : Ends} {f : Flow} {s' : Shared} (h : SP (X.wish E) pins D f s') : SP X pins D f s' := by
  cases f with
  | next => obtain ⟨σ', H', I, q⟩ := h; exact ⟨σ', H', I.unwish, q⟩
  | brk => obtain ⟨σ', H', I, q⟩ := h; exact ⟨σ', H', I.unwish, q⟩
  | cont => obtain ⟨σ', H', I, q⟩ := h; exact ⟨σ', H', I.unwish, q⟩
  | ret u => obtain ⟨v, σ', H', I, r, q⟩ := h; exact ⟨v, σ', H', I.unwish, r, q⟩
theorem PE.nox {e : Expr} {t : TE} (h : PE X.nox e t) : PE X e t := fun pins s σ H Q I hw =>
  wpAny_mono (h pins s σ H Q (I.wish _) hw) (fun _ _ ⟨v, H', I', r, q⟩ => ⟨v, H', I'.unwish, r, q⟩) fun _ _ z => False.elim z
theorem PT.nox {e : Expr} {t : TT} (h : PT X.nox e t) : PT X e t := fun pins s σ H Q I hw =>
  wpAny_mono (h pins s σ H Q (I.wish _) hw) (fun _ _ ⟨H', I', q⟩ => ⟨H', I'.unwish, q⟩) fun _ _ z => False.elim z
theorem PSs.nox {st : List Stmt} {t : TS} (h : PSs X.nox st t) : PSs X st t := fun pins s σ H D I hw =>
  wpAny_mono (h pins s σ H D (I.wish _) hw) (fun _ _ q => q.unwish) fun _ _ z => False.elim z
end

/-! ### blocks and small statements -/
section
variable {X : Cx} {st : Stmt} {rest : List Stmt} {t u : TS} {e : Expr} {te : TE} {pos : Pos}
def tNext : TS := fun D σ H => D.nx σ H
def tSeq (t u : TS) : TS := fun D σ H => t { D with nx := u D } σ H
theorem pss_nil : PSs X [] tNext := fun _ _ σ H _ I h => wpAny_execs_nil ⟨σ, H, I, h⟩
theorem pss_cons (h1 : PS X st t) (h2 : PSs X rest u) : PSs X (st :: rest) (tSeq t u) := by
  intro pins s σ H D I h
  refine wpAny_execs_cons (thn (h1 pins s σ H { D with nx := u D } I h) fun f s1 q => ?_)
  cases f with
  | next =>
    obtain ⟨σ', H', I', q⟩ := q
    exact h2 pins s1 σ' H' D I' q
  | ret v => exact q
  | brk => exact q
  | cont => exact q
theorem pss_one (h1 : PS X st t) : PSs X [st] t := by
  intro pins s σ H D I h
  refine wpAny_execs_cons (thn (h1 pins s σ H D I h) fun f s1 q => ?_)
  cases f with
  | next => exact wpAny_execs_nil q
  | ret v => exact q
  | brk => exact q
  | cont => exact q
/-- in a def's body nothing is shown -/
theorem Inv.quiet {pins : List (Addr × Obj)} {σ : St} {H : Hp} {s : Shared} (I : Inv X pins σ H s) : interactive X.env = false := by simp [interactive, I.ok.kind]
/-- an expression whose value is dropped -/
def tDrop (te : TE) : TS := fun D σ H => te σ H fun _ H1 => D.nx σ H1
theorem ps_expr (he : PE X e te) (hs : swapsWith e none pos.line X.env = pure false := by rfl) : PS X (.Expr e pos) (tDrop te) := by
  intro pins s σ H D I h
  exact wpAny_Expr_any (thn (he pins s σ H _ I h) fun v s1 ⟨x, H1, I1, r1, q1⟩ => ⟨σ, H1, I1, q1⟩) I.quiet hs
def tRet (te : TE) : TS := fun D σ H => te σ H D.rt
theorem ps_ret (he : PE X e te) : PS X (.Return (some e) pos) (tRet te) := by
  intro pins s σ H D I h
  exact wpAny_Return_some (thn (he pins s σ H _ I h) fun v s1 ⟨x, H1, I1, r1, q1⟩ => ⟨x, σ, H1, I1, r1, q1⟩)
def tIfS (c : TT) (t u : TS) : TS := fun D σ H => c σ H fun b H1 => if b = true then t D σ H1 else u D σ H1
theorem ps_if {c : Expr} {a b : List Stmt} {tc : TT} (hc : PT X c tc) (ha : PSs X a t) (hb : PSs X b u) : PS X (.If c a b pos) (tIfS tc t u) := by
  intro pins s σ H D I h
  refine wpAny_If (thn (hc pins s σ H _ I h) fun d s1 ⟨H1, I1, q1⟩ => ?_)
  cases d with
  | true => exact ha pins s1 σ H1 D I1 q1
  | false => exact hb pins s1 σ H1 D I1 q1
end

/-! ### targets -/
abbrev TG := V → St → Hp → (St → Hp → Prop) → Prop
def PG (X : Cx) (target : Expr) (t : TG) : Prop :=
  ∀ (pins : List (Addr × Obj)) (s : Shared) (σ : St) (H : Hp) (v : V) (u : Value) (Q : St → Hp → Prop), Inv X pins σ H s → RelV v u → t v σ H Q →
    wpAny (model X.prog X.w) X.A (assign target X.env u) (fun _ s' => ∃ σ' H', Inv X pins σ' H' s' ∧ Q σ' H') X.xe s
/-- o[i] = v, by values -/
abbrev TSet := V → V → V → Hp → (Hp → Prop) → Prop
def PSet (X : Cx) (t : TSet) : Prop :=
  ∀ (pins : List (Addr × Obj)) (s : Shared) (σ : St) (H : Hp) (o i v : V) (ov iv u : Value) (Q : Hp → Prop), Inv X pins σ H s → RelV o ov → RelV i iv → RelV v u → t o i v H Q →
    wpAny (model X.prog X.w) X.A (setItem ov iv u) (fun _ s' => ∃ H', Inv X pins σ H' s' ∧ Q H') X.xe s
section
variable {X : Cx} {pos : Pos}
def gName (i : Nat) : TG := fun v σ H Q => Q (σ.set i (some v)) H
theorem pg_name {i : Nat} {x : Str} (hN : X.N.Nodup) (hi : X.N[i]? = some x) (hx : Loc X.env.scope x) (hf : X.fn x = true ∨ X.env.scope.names.lookup x = some .local := by first | exact .inl rfl | exact .inr rfl | assumption) : PG X (.Name x pos) (gName i) := by
  intro pins s σ H v u Q I r h
  exact wpAny_assign_Name (store_ok I hN hi hx r (fun s' I' => ⟨_, H, I', h⟩) hf)
/-- o[i] = .. -/
def gSub (to ti : TE) (t : TSet) : TG := fun v σ H Q => to σ H fun o H1 => ti σ H1 fun i H2 => t o i v H2 fun H3 => Q σ H3
theorem pg_sub {o i : Expr} {to ti : TE} {t : TSet} (ho : PE X o to) (hi : PE X i ti) (hs : PSet X t)
    (ha : ∀ v, assign (.Subscript o i pos) X.env v = (do
      let ov ← holding [v] (eval o X.env)
      let iv ← holding [v, ov] (eval i X.env)
      standAt pos
      holding [v, ov, iv] (setItem ov iv v)
      release [v, ov, iv] []) := by intro _; rfl) : PG X (.Subscript o i pos) (gSub to ti t) := by
  intro pins s σ H v u Q I r h
  rw [ha]
  refine wpAny_bind (wpAny_holding (thn (ho pins s σ H _ I h) fun ov s1 ⟨x, H1, I1, r1, q1⟩ => ?_))
  refine wpAny_bind (wpAny_holding (thn (hi pins s1 σ H1 _ I1 q1) fun iv s2 ⟨y, H2, I2, r2, q2⟩ => ?_))
  refine wpAny_bind (wpAny_standAt (wpAny_bind (wpAny_holding (thn (hs pins s2 σ H2 x y v ov iv u _ I2 r1 r2 r q2) fun _ s3 ⟨H3, I3, q3⟩ => ?_))))
  exact wpAny_release ⟨σ, H3, I3, q3⟩
/-- target = value -/
def tAsg (te : TE) (g : TG) : TS := fun D σ H => te σ H fun x H1 => g x σ H1 D.nx
theorem ps_asg {tg e : Expr} {te : TE} {g : TG} (he : PE X e te) (hg : PG X tg g) (hs : swapsWithSole [tg] e pos.line X.env = pure false := by rfl) (hw : swappedStores [tg] e X.env = pure none := by rfl)
    (h1 : (assignEach [tg] X.env).map (·.2) = [assign tg X.env] := by rfl) : PS X (.Assign [tg] e pos) (tAsg te g) := by
  intro pins s σ H D I h
  refine wpAny_Assign_stores (thn (he pins s σ H _ I h) fun v s1 ⟨x, H1, I1, r1, q1⟩ => ?_) hs hw
  rw [h1]
  exact thn (hg pins s1 σ H1 x v _ I1 r1 q1) fun _ s2 q => q
/-- name = value -/
theorem ps_set {i : Nat} {x : Str} {e : Expr} {te : TE} {pos' : Pos} (hN : X.N.Nodup) (hi : X.N[i]? = some x) (hx : Loc X.env.scope x) (he : PE X e te) (hs : swapsWith e (some (.Name x pos')) pos.line X.env = pure false := by rfl) (hf : X.fn x = true ∨ X.env.scope.names.lookup x = some .local := by first | exact .inl rfl | exact .inr rfl | assumption) :
    PS X (.Assign [.Name x pos'] e pos) (tAsg te (gName i)) := by
  intro pins s σ H D I h
  refine wpAny_Assign_Name (thn (he pins s σ H _ I h) fun v s1 ⟨y, H1, I1, r1, q1⟩ => ?_) hs
  exact store_ok I1 hN hi hx r1 (fun s2 I2 => ⟨_, H1, I2, q1⟩) hf
end

/-! ### while -/
section
variable {X : Cx} {pos : Pos}
/-- the invariant W with its measure -/
def tWhile (c : TT) (tb : TS) : TS := fun D σ H => ∃ W : Nat → St → Hp → Prop, (∃ m, W m σ H) ∧ ∀ m σ H, W m σ H →
  c σ H fun b H1 => if b = true then ∃ N : St → Hp → Prop, (∀ σ' H', N σ' H' → ∃ m', m' < m ∧ W m' σ' H') ∧ tb { D with nx := N, ct := N, bk := D.nx } σ H1 else D.nx σ H1
theorem ps_while {c : Expr} {body : List Stmt} {tc : TT} {tb : TS} (hp : PassesOwn (model X.prog X.w) X.A X.env X.xe) (hc : PT X c tc) (hb : PSs X body tb) : PS X (.While c body [] pos) (tWhile tc tb) := by
  intro pins s σ H D I h
  obtain ⟨W, ⟨m0, w0⟩, turn⟩ := h
  refine wpAny_While (codeAny_whileLoop (fun n s' => ∃ σ' H', Inv X pins σ' H' s' ∧ W n σ' H') ?_ m0 ⟨σ, H, I, w0⟩)
  rintro n s1 ⟨σ1, H1, I1, w1⟩
  refine wpAny_passesOwn hp (thn (hc pins s1 σ1 H1 _ I1 (turn n σ1 H1 w1)) fun b s2 ⟨H2, I2, q2⟩ => ?_)
  cases b with
  | true =>
    obtain ⟨N, hN, q2⟩ := q2
    rw [if_pos rfl]
    refine wpAny_passesOwn hp (thn (hb pins s2 σ1 H2 _ I2 q2) fun f s3 q3 => ?_)
    cases f with
    | next =>
      obtain ⟨σ3, H3, I3, n3⟩ := q3
      obtain ⟨m', hm, w3⟩ := hN σ3 H3 n3
      exact ⟨m', hm, σ3, H3, I3, w3⟩
    | cont =>
      obtain ⟨σ3, H3, I3, n3⟩ := q3
      obtain ⟨m', hm, w3⟩ := hN σ3 H3 n3
      exact ⟨m', hm, σ3, H3, I3, w3⟩
    | brk => exact q3
    | ret v => exact q3
  | false =>
    rw [if_neg Bool.false_ne_true]
    exact wpAny_execs_nil ⟨σ1, H2, I2, q2⟩
end

/-! ### what a loop or a comprehension walks -/
/-- at turn i: it yields x (the heap may grow), or it stops -/
structure It where
  go : Nat → Hp → Prop
  yld : Nat → Hp → V → Hp → Prop
  stop : Nat → Hp → Prop
/-- the iterator's own objects may turn: they are not the frame's, not pinned, younger than the entry (or a comprehension's own) -/
def FpOk (X : Cx) (pins : List (Addr × Obj)) (H : Hp) (b : Addr) : Prop :=
  H b = none ∧ b ≠ X.env.locals ∧ b ∉ X.fs ∧ (b ∈ X.ex ∨ X.s_0.heap.objs.size ≤ b) ∧ (∀ x c, X.env.cells.lookup x = some c → c ≠ b) ∧ ∀ p ∈ X.pn ++ pins, p.1 ≠ b
theorem Inv.fpOk {X : Cx} {pins : List (Addr × Obj)} {σ : St} {H H' : Hp} {s : Shared} {b : Addr} (I : Inv X pins σ H s) (hb : s.heap.objs.size ≤ b) (hn : H' b = none) : FpOk X pins H' b := by
  refine ⟨hn, Nat.ne_of_gt (Nat.lt_of_lt_of_le I.lt hb), I.nofs hb, .inr (Nat.le_trans I.sz hb), fun x c e z => ?_, fun p hp z => ?_⟩
  · obtain ⟨v, q⟩ := I.cell x c e
    exact absurd (Nat.lt_of_lt_of_le q.lt (by rw [z]; exact hb)) (Nat.lt_irrefl _)
  · exact absurd (Nat.lt_of_lt_of_le (Heap.lt_size (I.pin p hp).1) (by rw [z]; exact hb)) (Nat.lt_irrefl _)
structure Turn (P : Program) (w : World) (K : PySem.W.Frag) (tg : Expr) (J : It) (fp : List Addr) (it : Addr) (tn : Nat → Heap → Prop) : Prop where
  mem : it ∈ fp
  obj : ∀ i h, tn i h → ∀ b ∈ fp, ∃ o, h.get? b = some o ∧ ∀ v, o.data ≠ .cell v
  keep : ∀ i h h', tn i h → (∀ b ∈ fp, ∀ o, h.get? b = some o → h'.get? b = some o) → tn i h'
  item : ∀ (X : Cx), X.prog = P → X.w = w → X.K = K → X.calm = true → ∀ (i : Nat) (pins : List (Addr × Obj)) (s : Shared) (σ : St) (H : Hp) (E : Value → Shared → Prop), Inv X pins σ H s → (∀ b ∈ fp, FpOk X pins H b) → tn i s.heap → J.go i H →
    wpAny (model P w) X.A (pyNext (.ref it)) (fun r s1 => ∃ u, r = some u ∧
      wpAny (model P w) X.A (letOwnedTupleGo tg (.ref it) u) (fun _ s2 => ∃ x H', Inv X pins σ H' s2 ∧ RelV x u ∧ J.yld i H x H' ∧ tn (i + 1) s2.heap ∧ ∀ b ∈ fp, H' b = none) E s1) E s
  done : ∀ (X : Cx), X.prog = P → X.w = w → X.K = K → X.calm = true → ∀ (i : Nat) (pins : List (Addr × Obj)) (s : Shared) (σ : St) (H : Hp) (E : Value → Shared → Prop), Inv X pins σ H s → (∀ b ∈ fp, FpOk X pins H b) → tn i s.heap → J.stop i H →
    wpAny (model P w) X.A (pyNext (.ref it)) (fun r s1 => r = none ∧ Inv X pins σ H s1) E s
  self : ∀ (A : Around) (i : Nat) (s : Shared) (Q : Value → Shared → Prop) (E : Value → Shared → Prop), tn i s.heap → Q (.ref it) s → wpAny (model P w) A (pyIter (.ref it)) Q E s
abbrev TI := St → Hp → (It → Hp → Prop) → Prop
/-- an iterator has come -/
def PIE (X : Cx) (pins : List (Addr × Obj)) (σ : St) (tg : Expr) (R : It → Hp → Prop) (itv : Value) (s2 : Shared) : Prop :=
  ∃ (it : Addr) (fp : List Addr) (tn : Nat → Heap → Prop) (J : It) (H' : Hp), itv = .ref it ∧ Inv X pins σ H' s2 ∧ Turn X.prog X.w X.K tg J fp it tn ∧ tn 0 s2.heap ∧ (∀ b ∈ fp, FpOk X pins H' b) ∧ R J H'
def PI (X : Cx) (tg iter : Expr) (wi : TI) : Prop :=
  ∀ (pins : List (Addr × Obj)) (s : Shared) (σ : St) (H : Hp) (R : It → Hp → Prop), Inv X pins σ H s → wi σ H R →
    wpAny (model X.prog X.w) X.A (eval iter X.env) (fun v s1 => wpAny (model X.prog X.w) X.A (pyIter v) (PIE X pins σ tg R) X.xe s1) X.xe s

/-- the step ahead of the store is nothing for an iterator that keeps no tuple -/
theorem go_of {M : Model} {A : Around} {E : Value → Shared → Prop} {s : Shared} {tg : Expr} {it : Addr} {u : Value} {o : Obj} {n : String} {vs : Array Value} {Q : Unit → Shared → Prop} (ho : s.heap.get? it = some o) (hc : o.cls = .type n) (hd : o.data = .fields vs)
    (hn : ["enumerate", "zip", "dict_itemiterator", "dict_reverseitemiterator", "odict_iterator", "itertools.zip_longest", "itertools.pairwise"].contains n = false) (hQ : Q () s) : wpAny M A (letOwnedTupleGo tg (.ref it) u) Q E s := by
  unfold letOwnedTupleGo
  cases tg <;> first
    | exact wpAny_pure hQ
    | (cases u <;> first
        | exact wpAny_pure hQ
        | (refine wpAny_bind (wpAny_load ho ?_)
           rw [hc, hd]
           show wpAny M A (if (["enumerate", "zip", "dict_itemiterator", "dict_reverseitemiterator", "odict_iterator", "itertools.zip_longest", "itertools.pairwise"].contains n && vs[0]? == some (rawInt _)) = true then _ else _) Q E s
           rw [if_neg (by intro h; rw [hn, Bool.false_and] at h; cases h)]
           exact wpAny_pure hQ))

/-- lo, lo + 1, .. (n of them) -/
def Itr (lo : Int) (n : Nat) : It := ⟨fun i _ => i < n, fun i H x H' => H' = H ∧ x = .int (lo + i), fun i _ => n ≤ i⟩
theorem turn_range {P : Program} {w : World} {K : PySem.W.Frag} {tg : Expr} (it : Addr) (lo : Int) (n : Nat) : Turn P w K tg (Itr lo n) [it] it (fun i h => IsRangeIter h it (lo + (i : Nat) * 1) ((n : Int) - (i : Nat)) 1) where
  mem := by simp
  obj := fun i h st b hb => by
    have e : b = it := by simpa using hb
    subst e
    exact ⟨_, st, fun v z => by
      have z' : Data.fields _ = Data.cell v := z
      cases z'⟩
  keep := fun i h h' st k => k it (by simp) _ st
  item := by
    intro X hP hw hK hc i pins s σ H E I hf st hg
    subst hP hw hK
    obtain ⟨f0, f1, f2, f3, f4, f5⟩ := hf it (by simp)
    have W := Walks.range (prog := X.prog) (w := X.w) (I.ok.hd hc) it lo 1 n
    refine W.item i s _ _ hg st fun v h' tk hv st' kk => ?_
    obtain ⟨t, rfl⟩ := hv
    have I1 : Inv X pins σ H { s with heap := h', toks := tk } := I.turned (fun b o hb e => kk b o (by simpa using hb) e) f0 f1 f3 f4 f5
    refine ⟨_, rfl, go_of (s := { s with heap := h', toks := tk }) (n := "range_iterator") st' rfl rfl (by decide) ⟨.int (lo + i), H, I1, ⟨t, ?_⟩, ⟨rfl, rfl⟩, st', fun b hb => (hf b hb).1⟩⟩
    rw [Int.mul_one]
  done := by
    intro X hP hw hK hc i pins s σ H E I hf st hg
    subst hP hw hK
    obtain ⟨f0, f1, f2, f3, f4, f5⟩ := hf it (by simp)
    exact wpAny_pyNext_range_end (I.ok.hd hc) st (by have : n ≤ i := hg; omega) fun h' eb => ⟨rfl, I.turned (t' := s.toks) (fun b o hb e => eb b o hb e) f0 f1 f3 f4 f5⟩
  self := fun _ _ _ _ _ st h => wpAny_pyIter_rangeiter st h
end L2

namespace L2
open PySem PySem.Spec PyProof.Rows
section
variable {X : Cx} {tg : Expr}
/-- a range object just made, walked -/
theorem range_it {pins : List (Addr × Obj)} {σ : St} {H : Hp} {s : Shared} {R : It → Hp → Prop} {E : Value → Shared → Prop} {lo hi : Int} {t u v : Tok} {tk : Nat} (I : Inv X pins σ H s) (h1 : -(2 ^ 62) ≤ lo) (h2 : lo < 2 ^ 62) (h3 : -(2 ^ 62) ≤ hi) (h4 : hi < 2 ^ 62)
    (q : R (Itr lo (hi - lo).toNat) H) : wpAny (model X.prog X.w) X.A (pyIter (.ref s.heap.objs.size)) (PIE X pins σ tg R) E { s with heap := s.heap.push { cls := .type "range", data := .fields #[.int lo t, .int hi u, .int 1 v] }, toks := tk } := by
  refine wpAny_pyIter_range (IsRange.new ..) (small_one h1 h2 h3 h4) ?_
  have I1 : Inv X pins σ H { s with heap := s.heap.push { cls := .type "range", data := .fields #[.int lo t, .int hi u, .int 1 v] }, toks := tk } := I.kept fun b o e => Heap.get?_push_of_some _ e
  refine ⟨(s.heap.push { cls := .type "range", data := .fields #[.int lo t, .int hi u, .int 1 v] }).objs.size, [(s.heap.push { cls := .type "range", data := .fields #[.int lo t, .int hi u, .int 1 v] }).objs.size], _, _, H, rfl,
    I1.kept (t' := tk) fun b o e => Heap.get?_push_of_some _ e, turn_range _ lo (hi - lo).toNat, ?_, fun b hb => ?_, q⟩
  · have e1 : lo + ((0 : Nat) : Int) * 1 = lo := by simp
    have e2 : (((hi - lo).toNat : Nat) : Int) - ((0 : Nat) : Int) = Builtin.Range.rangeSize lo hi 1 := by rw [rangeSize_one]; split <;> omega
    show IsRangeIter _ _ (lo + ((0 : Nat) : Int) * 1) ((((hi - lo).toNat : Nat) : Int) - ((0 : Nat) : Int)) 1
    rw [e1, e2]
    exact Heap.get?_push_size _ rfl
  · have e : b = (s.heap.push { cls := .type "range", data := .fields #[.int lo t, .int hi u, .int 1 v] }).objs.size := by simpa using hb
    subst e
    exact I1.fpOk (Nat.le_refl _) (I1.hok.fresh (Nat.le_refl _))
def iRng1 (ta : TA) : TI := fun σ H R => ta σ H fun vs H1 => ∃ j : Int, vs = [.int j] ∧ -(2 ^ 62) ≤ j ∧ j < 2 ^ 62 ∧ R (Itr 0 j.toNat) H1
def iRng2 (ta : TA) : TI := fun σ H R => ta σ H fun vs H1 => ∃ i j : Int, vs = [.int i, .int j] ∧ (-(2 ^ 62) ≤ i ∧ i < 2 ^ 62 ∧ -(2 ^ 62) ≤ j ∧ j < 2 ^ 62) ∧ R (Itr i (j - i).toNat) H1
theorem pi_range1 {a : Expr} {ta : TA} {p pos : Pos} (hg : Gl X "range") (hm : X.mg "range" = none) (ha : PA X [a] ta) (hs : starEach [a] X.env = [(false, eval a X.env)] := by rfl) : PI X tg (.Call (.Name "range" p) [a] [] pos) (iRng1 ta) := by
  intro pins s σ H R I h
  refine Call_ (ld_blt I hg hm boot_range (PyProof.Rows.callWith_type1 (thn (ha pos pins s σ H _ I h) fun us s1 ⟨vs, H1, I1, r1, q1⟩ => ?_) hs rfl))
  obtain ⟨j, e, q1, q2, q⟩ := q1
  subst e
  cases r1 with
  | cons r rr =>
    cases rr
    obtain ⟨t, rfl⟩ := r
    exact call_range_1 (range_it I1 (by omega) (by omega) q1 q2 (by simpa using q))
theorem pi_range2 {a b : Expr} {ta : TA} {p pos : Pos} (hg : Gl X "range") (hm : X.mg "range" = none) (ha : PA X [a, b] ta) (hs : starEach [a, b] X.env = [(false, eval a X.env), (false, eval b X.env)] := by rfl) (hs2 : starEach [b] X.env = [(false, eval b X.env)] := by rfl) :
    PI X tg (.Call (.Name "range" p) [a, b] [] pos) (iRng2 ta) := by
  intro pins s σ H R I h
  refine Call_ (ld_blt I hg hm boot_range (PyProof.Rows.callWith_type1 (thn (ha pos pins s σ H _ I h) fun us s1 ⟨vs, H1, I1, r1, q1⟩ => ?_) (by rw [hs, hs2]) (by rw [hs2]; rfl)))
  obtain ⟨i, j, e, ⟨q1, q2, q3, q4⟩, q⟩ := q1
  subst e
  cases r1 with
  | cons r rr =>
    cases rr with
    | cons r' rr =>
      cases rr
      obtain ⟨t, rfl⟩ := r
      obtain ⟨t', rfl⟩ := r'
      exact call_range_2 (range_it I1 q1 q2 q3 q4 q)

/-! ### for -/
/-- W: the invariant by the turn and a measure; N: what the body is to reach -/
def tFor (wi : TI) (g : TG) (tb : TS) : TS := fun D σ H => wi σ H fun J H1 => ∃ W : Nat → Nat → St → Hp → Prop, (∃ m, W 0 m σ H1) ∧ ∀ i m σ H, W i m σ H →
  (J.stop i H ∧ D.nx σ H) ∨ (J.go i H ∧ ∃ N : St → Hp → Prop, (∀ σ' H', N σ' H' → ∃ m', m' < m ∧ W (i + 1) m' σ' H') ∧ ∀ x H', J.yld i H x H' → g x σ H' fun σ2 H2 => tb { D with nx := N, ct := N, bk := D.nx } σ2 H2)
/-- the records at fp as they stand -/
def pinsAt (fp : List Addr) (h : Heap) : List (Addr × Obj) := fp.filterMap fun b => (h.get? b).map fun o => (b, o)
theorem mem_pinsAt {fp : List Addr} {h : Heap} {b : Addr} {o : Obj} (hb : b ∈ fp) (e : h.get? b = some o) : (b, o) ∈ pinsAt fp h := List.mem_filterMap.mpr ⟨b, hb, by rw [e]; rfl⟩
theorem of_pinsAt {fp : List Addr} {h : Heap} {p : Addr × Obj} (hp : p ∈ pinsAt fp h) : p.1 ∈ fp ∧ h.get? p.1 = some p.2 := by
  obtain ⟨b, hb, e⟩ := List.mem_filterMap.mp hp
  cases q : h.get? b with
  | none => rw [q] at e; cases e
  | some o =>
    rw [q] at e
    have e' : (b, o) = p := Option.some.inj e
    subst e'
    exact ⟨hb, q⟩
theorem Inv.pinned {pins : List (Addr × Obj)} {σ : St} {H : Hp} {s : Shared} {fp : List Addr} (I : Inv X pins σ H s) (hf : ∀ b ∈ fp, FpOk X pins H b) (ho : ∀ b ∈ fp, ∃ o, s.heap.get? b = some o ∧ ∀ v, o.data ≠ .cell v) : Inv X (pins ++ pinsAt fp s.heap) σ H s :=
  I.pins_of fun p hp => (List.mem_append.mp hp).elim (fun z => I.pin p (List.mem_append_right _ z)) fun z => by
    obtain ⟨hb, e⟩ := of_pinsAt z
    obtain ⟨f0, f1, f2, _⟩ := hf p.1 hb
    obtain ⟨o, e', d⟩ := ho p.1 hb
    rw [e] at e'; cases e'
    exact ⟨e, f0, f1, f2, d⟩
theorem Inv.unpinned {pins pl : List (Addr × Obj)} {σ : St} {H : Hp} {s : Shared} (I : Inv X (pins ++ pl) σ H s) : Inv X pins σ H s := I.pins_of fun p hp => I.pin p (List.mem_append_right _ (List.mem_append_left _ hp))
theorem ps_for {iter : Expr} {body : List Stmt} {wi : TI} {g : TG} {tb : TS} {pos : Pos} (hp : PassesOwn (model X.prog X.w) X.A X.env X.xe) (hc : X.calm = true) (hi : PI X tg iter wi) (hg : PG X tg g) (hb : PSs X body tb)
    (hs : ∀ x, foldedSetIterable iter X.env x = pure x := by intro _; rfl) : PS X (.For tg iter body [] pos) (tFor wi g tb) := by
  intro pins s σ H D I h
  refine wpAny_For (thn (hi pins s σ H _ I h) fun v s1 h1 => thn h1 fun itv s2 h2 => ?_) hs
  obtain ⟨it, fp, tn, J, H2, e, I2, T, st2, f2, W, ⟨m0, w0⟩, turn⟩ := h2
  subst e
  -- what stays true of the iterator's objects through the loop
  have stat : ∀ {H' : Hp}, (∀ b ∈ fp, H' b = none) → ∀ b ∈ fp, FpOk X pins H' b := fun hn b hb => ⟨hn b hb, (f2 b hb).2⟩
  refine codeAny_forLoop_any (fun n s' => ∃ i σ' H', Inv X pins σ' H' s' ∧ tn i s'.heap ∧ (∀ b ∈ fp, H' b = none) ∧ W i n σ' H') ?_ m0 ⟨0, σ, H2, I2, st2, fun b hb => (f2 b hb).1, w0⟩
  rintro n s3 ⟨i, σ3, H3, I3, st3, fr3, w3⟩
  rcases turn i n σ3 H3 w3 with ⟨stop, qn⟩ | ⟨go, N, hN, step⟩
  · refine wpAny_passesOwn hp (thn (T.done X rfl rfl rfl hc i pins s3 σ3 H3 X.xe I3 (stat fr3) st3 stop) fun r s4 ⟨hr, I4⟩ => ?_)
    subst hr
    exact wpAny_execs_nil ⟨σ3, H3, I4, qn⟩
  · refine wpAny_passesOwn hp (thn (T.item X rfl rfl rfl hc i pins s3 σ3 H3 X.xe I3 (stat fr3) st3 go) fun r s4 ⟨u, hr, h4⟩ => ?_)
    subst hr
    refine wpAny_passesOwn hp (thn h4 fun _ s5 ⟨x, H5, I5, r5, y5, st5, fr5⟩ => ?_)
    have I5' := I5.pinned (stat fr5) (T.obj _ _ st5)
    refine wpAny_passesOwn hp (thn (hg _ s5 σ3 H5 x u _ I5' r5 (step x H5 y5)) fun _ s6 ⟨σ6, H6, I6, q6⟩ => ?_)
    refine wpAny_passesOwn hp (thn (hb _ s6 σ6 H6 _ I6 q6) fun f s7 q7 => ?_)
    have again : ∀ {σ7 : St} {H7 : Hp}, Inv X (pins ++ pinsAt fp s5.heap) σ7 H7 s7 → N σ7 H7 → ∃ m, m < n ∧ ∃ i σ' H', Inv X pins σ' H' s7 ∧ tn i s7.heap ∧ (∀ b ∈ fp, H' b = none) ∧ W i m σ' H' := fun {σ7 H7} I7 n7 => by
      obtain ⟨m', hm, w7⟩ := hN σ7 H7 n7
      refine ⟨m', hm, i + 1, σ7, H7, I7.unpinned, T.keep _ _ _ st5 fun b hb o e => (I7.pin (b, o) (List.mem_append_right _ (List.mem_append_right _ (mem_pinsAt hb e)))).1, fun b hb => ?_, w7⟩
      obtain ⟨o, e, d⟩ := T.obj _ _ st5 b hb
      exact (I7.pin (b, o) (List.mem_append_right _ (List.mem_append_right _ (mem_pinsAt hb e)))).2.1
    cases f with
    | next => obtain ⟨σ7, H7, I7, n7⟩ := q7; exact again I7 n7
    | cont => obtain ⟨σ7, H7, I7, n7⟩ := q7; exact again I7 n7
    | brk => obtain ⟨σ7, H7, I7, q7⟩ := q7; exact ⟨σ7, H7, I7.unpinned, q7⟩
    | ret v => obtain ⟨x7, σ7, H7, I7, r7, q7⟩ := q7; exact ⟨x7, σ7, H7, I7.unpinned, r7, q7⟩
end

/-! ### the forms one uses -/
theorem for_range {lo : Int} {n : Nat} {g : TG} {tb : TS} {D : Ends} {σ : St} {H : Hp} (Pv : Nat → St → Hp → Prop) (h0 : Pv 0 σ H)
    (hs : ∀ i σ H, i < n → Pv i σ H → g (.int (lo + i)) σ H fun σ2 H2 => tb { D with nx := Pv (i + 1), ct := Pv (i + 1), bk := D.nx } σ2 H2) (hd : ∀ σ H, Pv n σ H → D.nx σ H) :
    ∃ W : Nat → Nat → St → Hp → Prop, (∃ m, W 0 m σ H) ∧ ∀ i m σ H, W i m σ H →
      ((Itr lo n).stop i H ∧ D.nx σ H) ∨ ((Itr lo n).go i H ∧ ∃ N : St → Hp → Prop, (∀ σ' H', N σ' H' → ∃ m', m' < m ∧ W (i + 1) m' σ' H') ∧ ∀ x H', (Itr lo n).yld i H x H' → g x σ H' fun σ2 H2 => tb { D with nx := N, ct := N, bk := D.nx } σ2 H2) := by
  refine ⟨fun i m σ H => m = n - i ∧ i ≤ n ∧ Pv i σ H, ⟨n, by simp, Nat.zero_le _, h0⟩, ?_⟩
  rintro i m σ H ⟨rfl, hi, p⟩
  by_cases hlt : i < n
  · refine .inr ⟨hlt, Pv (i + 1), fun σ' H' p' => ⟨n - (i + 1), by omega, rfl, hlt, p'⟩, fun x H' y => ?_⟩
    obtain ⟨e, y⟩ := y
    subst e y
    exact hs i σ _ hlt p
  · have e : i = n := by omega
    subst e
    exact .inl ⟨Nat.le_refl _, hd σ H p⟩
end L2

namespace L2
open PySem PySem.Spec PyProof.Rows

abbrev R2 := V → V → Hp → VK → Prop
/-- a two-place operation on values: f is binaryOp op, inplaceOp op or compareOp op -/
def OpR (X : Cx) (f : Value → Value → Sem Value) (r : R2) : Prop :=
  ∀ (pins : List (Addr × Obj)) (s : Shared) (σ : St) (H : Hp) (x y : V) (v u : Value) (Q : VK), Inv X pins σ H s → RelV x v → RelV y u → r x y H Q →
    wpAny (model X.prog X.w) X.A (f v u) (EP X pins σ Q) X.xe s
/-- a one-place operation -/
def UnR (X : Cx) (f : Value → Sem Value) (r : V → Hp → VK → Prop) : Prop :=
  ∀ (pins : List (Addr × Obj)) (s : Shared) (σ : St) (H : Hp) (x : V) (v : Value) (Q : VK), Inv X pins σ H s → RelV x v → r x H Q →
    wpAny (model X.prog X.w) X.A (f v) (EP X pins σ Q) X.xe s
/-- a call of a value that is known (a builtin, a type) with values -/
def CallR (X : Cx) (f : Value) (r : List V → Hp → VK → Prop) : Prop :=
  ∀ (pins : List (Addr × Obj)) (s : Shared) (σ : St) (H : Hp) (xs : List V) (us : List Value) (Q : VK), Inv X pins σ H s → Vals xs us → r xs H Q →
    wpAny (model X.prog X.w) X.A (call f us) (EP X pins σ Q) X.xe s
def tOp (r : R2) (ta tb : TE) : TE := fun σ H Q => ta σ H fun x H1 => tb σ H1 fun y H2 => r x y H2 Q
def tUn (r : V → Hp → VK → Prop) (ta : TE) : TE := fun σ H Q => ta σ H fun x H1 => r x H1 Q
/-- ints in, under C, and a value out -/
def rI (C : Int → Int → Prop) (g : Int → Int → V) : R2 := fun x y H Q => ∃ i j, x = .int i ∧ y = .int j ∧ C i j ∧ Q (g i j) H
def rI0 (g : Int → Int → V) : R2 := fun x y H Q => ∃ i j, x = .int i ∧ y = .int j ∧ Q (g i j) H
def rU (g : Int → V) : V → Hp → VK → Prop := fun x H Q => ∃ i, x = .int i ∧ Q (g i) H

section
variable {X : Cx} {a b c : Expr} {ta tb tc : TE} {pos : Pos}

theorem binT (ha : PE X a ta) (hb : PE X b tb) {pins : List (Addr × Obj)} {s : Shared} {σ : St} {H : Hp} {R : V → V → Hp → Prop} (I : Inv X pins σ H s)
    (h : ta σ H fun x H1 => tb σ H1 fun y H2 => R x y H2) {Q : Value → Shared → Prop} {f : Value → Value → Sem Value}
    (hf : ∀ v u s2 x y H2, Inv X pins σ H2 s2 → RelV x v → RelV y u → R x y H2 → wpAny (model X.prog X.w) X.A (f v u) Q X.xe s2) :
    wpAny (model X.prog X.w) X.A (eval a X.env) (fun v s₁ => wpAny (model X.prog X.w) X.A (eval b X.env) (fun u s₂ => wpAny (model X.prog X.w) X.A (f v u) Q X.xe s₂) X.xe s₁) X.xe s := by
  refine thn (ha pins s σ H _ I h) fun v s1 ⟨x, H1, I1, r1, q1⟩ => ?_
  refine thn (hb pins s1 σ H1 _ I1 q1) fun u s2 ⟨y, H2, I2, r2, q2⟩ => ?_
  exact hf v u s2 x y H2 I2 r1 r2 q2

theorem pe_op {op : Operator} {r : R2} (ho : OpR X (binaryOp op) r) (ha : PE X a ta) (hb : PE X b tb) : PE X (.BinOp a op b pos) (tOp r ta tb) := by
  intro pins s σ H Q I h
  exact wpAny_BinOp (binT ha hb I h fun v u s2 x y H2 I2 rx ry q => ho pins s2 σ H2 x y v u Q I2 rx ry q)
theorem pe_un {op : UnaryOp} {r : V → Hp → VK → Prop} (ho : UnR X (unaryOp op) r) (ha : PE X a ta) : PE X (.UnaryOp op a pos) (tUn r ta) := by
  intro pins s σ H Q I h
  exact UnaryOp_ (thn (ha pins s σ H _ I h) fun v s1 ⟨x, H1, I1, r1, q1⟩ => ho pins s1 σ H1 x v Q I1 r1 q1)
/-! ### ints -/
theorem opI {f : Value → Value → Sem Value} {C : Int → Int → Prop} {g : Int → Int → Int}
    (rule : ∀ (i j : Int) (t u : Tok) (s : Shared) (Q : Value → Shared → Prop) (E : Value → Shared → Prop), C i j → Q (.int (g i j) s.toks) { s with toks := s.toks + 1 } → wpAny (model X.prog X.w) X.A (f (.int i t) (.int j u)) Q E s) :
    OpR X f (rI C fun i j => .int (g i j)) := by
  intro pins s σ H x y v u Q I rx ry h
  obtain ⟨i, j, rfl, rfl, hc, q⟩ := h
  obtain ⟨t, rfl⟩ := rx
  obtain ⟨t', rfl⟩ := ry
  exact rule i j t t' s _ _ hc ⟨.int (g i j), H, I.tok _, ⟨_, rfl⟩, q⟩
theorem opI0 {f : Value → Value → Sem Value} {g : Int → Int → Int}
    (rule : ∀ (i j : Int) (t u : Tok) (s : Shared) (Q : Value → Shared → Prop) (E : Value → Shared → Prop), Q (.int (g i j) s.toks) { s with toks := s.toks + 1 } → wpAny (model X.prog X.w) X.A (f (.int i t) (.int j u)) Q E s) :
    OpR X f (rI0 fun i j => .int (g i j)) := by
  intro pins s σ H x y v u Q I rx ry h
  obtain ⟨i, j, rfl, rfl, q⟩ := h
  obtain ⟨t, rfl⟩ := rx
  obtain ⟨t', rfl⟩ := ry
  exact rule i j t t' s _ _ ⟨.int (g i j), H, I.tok _, ⟨_, rfl⟩, q⟩
theorem opB0 {f : Value → Value → Sem Value} {g : Int → Int → Bool}
    (rule : ∀ (i j : Int) (t u : Tok) (s : Shared) (Q : Value → Shared → Prop) (E : Value → Shared → Prop), Q (.bool (g i j)) s → wpAny (model X.prog X.w) X.A (f (.int i t) (.int j u)) Q E s) :
    OpR X f (rI0 fun i j => .bl (g i j)) := by
  intro pins s σ H x y v u Q I rx ry h
  obtain ⟨i, j, rfl, rfl, q⟩ := h
  obtain ⟨t, rfl⟩ := rx
  obtain ⟨t', rfl⟩ := ry
  exact rule i j t t' s _ _ ⟨.bl (g i j), H, I, rfl, q⟩

def CDiv (i j : Int) : Prop := 0 < j ∧ j < 1073741824
def CMul (i j : Int) : Prop := (-(2 ^ 64) < i ∧ i < 2 ^ 64) ∨ (-(2 ^ 64) < j ∧ j < 2 ^ 64)
theorem CMul.ok {i j : Int} (h : CMul i j) : IntMulOk i j := by
  rcases h with ⟨h1, h2⟩ | ⟨h1, h2⟩
  · exact .of_left (intBits_le_64 h1 h2)
  · exact .of_right (intBits_le_64 h1 h2)
theorem op_add : OpR X (binaryOp .Add) (rI0 fun i j => .int (i + j)) := opI0 fun _ _ _ _ _ _ _ q => add_int q
theorem op_sub : OpR X (binaryOp .Sub) (rI0 fun i j => .int (i - j)) := opI0 fun _ _ _ _ _ _ _ q => sub_int q
theorem op_mul : OpR X (binaryOp .Mult) (rI CMul fun i j => .int (i * j)) := opI fun _ _ _ _ _ _ _ hc q => mul_int q hc.ok
/-- // by a positive divisor -/
theorem op_fdiv : OpR X (binaryOp .FloorDiv) (rI CDiv fun i j => .int (i / j)) := opI fun i j _ _ _ _ _ hc q => by
  have h1 : (0 : Int) < j := hc.1
  have h2 : j < 1073741824 := hc.2
  exact floordiv_int (by omega) (by rw [Int.fdiv_eq_ediv_of_nonneg i (by omega)]; exact q) (.inl (PyProof.noPylong_small (by omega)))
/-- % by a positive divisor of any size -/
theorem op_mod : OpR X (binaryOp .Mod) (rI (fun _ j => 0 < j) fun i j => .int (i % j)) := opI fun i j _ _ _ _ _ hc q => by
  have h1 : (0 : Int) < j := hc
  exact mod_int' (by omega) (by rw [Int.fmod_eq_emod_of_nonneg i (by omega)]; exact q)
theorem unI {f : Value → Sem Value} {g : Int → Int}
    (rule : ∀ (i : Int) (t : Tok) (s : Shared) (Q : Value → Shared → Prop) (E : Value → Shared → Prop), Q (.int (g i) s.toks) { s with toks := s.toks + 1 } → wpAny (model X.prog X.w) X.A (f (.int i t)) Q E s) :
    UnR X f (rU fun i => .int (g i)) := by
  intro pins s σ H x v Q I rx h
  obtain ⟨i, rfl, q⟩ := h
  obtain ⟨t, rfl⟩ := rx
  exact rule i t s _ _ ⟨.int (g i), H, I.tok _, ⟨_, rfl⟩, q⟩
theorem un_neg : UnR X (unaryOp .USub) (rU fun i => .int (-i)) := unI fun _ _ _ _ _ q => neg_int q
/-! ### bools among ints: n += (a < b) -/
end

/-! ### comparisons -/
/-- the scalars that == tells apart as data does -/
def scal : V → V → Bool
  | .non, .non => true | .non, .int _ => true | .int _, .non => true | .non, .bl _ => true | .bl _, .non => true | .non, .str _ => true | .str _, .non => true
  | .int _, .int _ => true | .bl _, .bl _ => true | .str _, .str _ => true | .byt _, .byt _ => true
  | .int _, .str _ => true | .str _, .int _ => true | .bl _, .str _ => true | .str _, .bl _ => true
  | _, _ => false
def rEq : R2 := fun x y H Q => scal x y = true ∧ Q (.bl (decide (x = y))) H
def rNe : R2 := fun x y H Q => scal x y = true ∧ Q (.bl (!decide (x = y))) H

theorem dec_int {i j : Int} : decide (V.int i = V.int j) = (i == j) := by
  rw [Bool.eq_iff_iff]
  simp
theorem dec_bl {i j : Bool} : decide (V.bl i = V.bl j) = (i == j) := by
  rw [Bool.eq_iff_iff]
  simp
theorem dec_str {i j : Str} : decide (V.str i = V.str j) = (i == j) := by
  rw [Bool.eq_iff_iff]
  simp
theorem dec_byt {i j : Array UInt8} : decide (V.byt i = V.byt j) = (i.toList == j.toList) := by
  rw [Bool.eq_iff_iff]
  cases i
  cases j
  simp

section
variable {X : Cx} {a b c : Expr} {ta tb tc : TE} {pos : Pos}
theorem fin_bl {pins : List (Addr × Obj)} {σ : St} {H : Hp} {s : Shared} {Q : VK} {k k' : Bool} (I : Inv X pins σ H s) (q : Q (.bl k) H) (e : k = k') : EP X pins σ Q (.bool k') s := by
  subst e
  exact ⟨.bl k, H, I, rfl, q⟩
theorem op_eq : OpR X (compareOp .Eq) rEq := by
  intro pins s σ H x y v u Q I rx ry h
  obtain ⟨hs, q⟩ := h
  cases x with
  | non =>
    cases rx
    cases y with
    | non => cases ry; exact PySem.EqNone.eq_none_none (fin_bl I q (by simp))
    | bl j => cases ry; exact PySem.EqNone.eq_none_bool (fin_bl I q (by simp))
    | int j => obtain ⟨t', rfl⟩ := ry; exact PySem.EqNone.eq_none_int (fin_bl I q (by simp))
    | str j => obtain ⟨t', rfl⟩ := ry; exact PySem.EqNone.eq_none_str (fin_bl I q (by simp))
    | _ => exact absurd (show false = true from hs) Bool.false_ne_true
  | bl i =>
    cases rx
    cases y with
    | non => cases ry; exact PySem.EqNone.eq_bool_none (fin_bl I q (by simp))
    | bl j => cases ry; exact eq_bool (fin_bl I q dec_bl)
    | str j => obtain ⟨t', rfl⟩ := ry; exact PySem.EqMixed.eq_bool_str (fin_bl I q (by simp))
    | _ => exact absurd (show false = true from hs) Bool.false_ne_true
  | int i =>
    obtain ⟨t, rfl⟩ := rx
    cases y with
    | non => cases ry; exact PySem.EqNone.eq_int_none (fin_bl I q (by simp))
    | int j => obtain ⟨t', rfl⟩ := ry; exact eq_int (fin_bl I q dec_int)
    | str j => obtain ⟨t', rfl⟩ := ry; exact PySem.EqMixed.eq_int_str (fin_bl I q (by simp))
    | _ => exact absurd (show false = true from hs) Bool.false_ne_true
  | str i =>
    obtain ⟨t, rfl⟩ := rx
    cases y with
    | non => cases ry; exact PySem.EqNone.eq_str_none (fin_bl I q (by simp))
    | bl j => cases ry; exact PySem.EqMixed.eq_str_bool (fin_bl I q (by simp))
    | int j => obtain ⟨t', rfl⟩ := ry; exact PySem.EqMixed.eq_str_int (fin_bl I q (by simp))
    | str j => obtain ⟨t', rfl⟩ := ry; exact eq_str (fin_bl I q dec_str)
    | _ => exact absurd (show false = true from hs) Bool.false_ne_true
  | byt i =>
    obtain ⟨t, rfl⟩ := rx
    cases y with
    | byt j => obtain ⟨t', rfl⟩ := ry; exact PySem.W.eq_bytes (fin_bl I q dec_byt)
    | _ => exact absurd (show false = true from hs) Bool.false_ne_true
  | _ => cases y <;> exact absurd (show false = true from hs) Bool.false_ne_true
theorem op_ne : OpR X (compareOp .NotEq) rNe := by
  intro pins s σ H x y v u Q I rx ry h
  obtain ⟨hs, q⟩ := h
  cases x with
  | non =>
    cases rx
    cases y with
    | non => cases ry; exact PySem.EqNone.ne_none_none (fin_bl I q (by simp))
    | bl j => cases ry; exact PySem.EqNone.ne_none_bool (fin_bl I q (by simp))
    | int j => obtain ⟨t', rfl⟩ := ry; exact PySem.EqNone.ne_none_int (fin_bl I q (by simp))
    | str j => obtain ⟨t', rfl⟩ := ry; exact PySem.EqNone.ne_none_str (fin_bl I q (by simp))
    | _ => exact absurd (show false = true from hs) Bool.false_ne_true
  | bl i =>
    cases rx
    cases y with
    | non => cases ry; exact PySem.EqNone.ne_bool_none (fin_bl I q (by simp))
    | bl j => cases ry; exact ne_bool (fin_bl I q (congrArg not dec_bl))
    | str j => obtain ⟨t', rfl⟩ := ry; exact PySem.EqMixed.ne_bool_str (fin_bl I q (by simp))
    | _ => exact absurd (show false = true from hs) Bool.false_ne_true
  | int i =>
    obtain ⟨t, rfl⟩ := rx
    cases y with
    | non => cases ry; exact PySem.EqNone.ne_int_none (fin_bl I q (by simp))
    | int j => obtain ⟨t', rfl⟩ := ry; exact ne_int (fin_bl I q (congrArg not dec_int))
    | str j => obtain ⟨t', rfl⟩ := ry; exact PySem.EqMixed.ne_int_str (fin_bl I q (by simp))
    | _ => exact absurd (show false = true from hs) Bool.false_ne_true
  | str i =>
    obtain ⟨t, rfl⟩ := rx
    cases y with
    | non => cases ry; exact PySem.EqNone.ne_str_none (fin_bl I q (by simp))
    | bl j => cases ry; exact PySem.EqMixed.ne_str_bool (fin_bl I q (by simp))
    | int j => obtain ⟨t', rfl⟩ := ry; exact PySem.EqMixed.ne_str_int (fin_bl I q (by simp))
    | str j => obtain ⟨t', rfl⟩ := ry; exact ne_str (fin_bl I q (congrArg not dec_str))
    | _ => exact absurd (show false = true from hs) Bool.false_ne_true
  | byt i =>
    obtain ⟨t, rfl⟩ := rx
    cases y with
    | byt j => obtain ⟨t', rfl⟩ := ry; exact PySem.W.ne_bytes (fin_bl I q (congrArg not dec_byt))
    | _ => exact absurd (show false = true from hs) Bool.false_ne_true
  | _ => cases y <;> exact absurd (show false = true from hs) Bool.false_ne_true

theorem op_lt : OpR X (compareOp .Lt) (rI0 fun i j => .bl (decide (i < j))) := opB0 fun _ _ _ _ _ _ _ q => lt_int q
theorem op_gt : OpR X (compareOp .Gt) (rI0 fun i j => .bl (decide (j < i))) := opB0 fun _ _ _ _ _ _ _ q => gt_int q
/-- two rules for one operation: by cases -/
theorem OpR.or {f : Value → Value → Sem Value} {r r' : R2} (h : OpR X f r) (h' : OpR X f r') : OpR X f (fun x y H Q => r x y H Q ∨ r' x y H Q) := by
  intro pins s σ H x y v u Q I rx ry q
  rcases q with q | q
  · exact h pins s σ H x y v u Q I rx ry q
  · exact h' pins s σ H x y v u Q I rx ry q

theorem nomark (b : Expr) {op : CmpOp} (h : op ≠ .In := by decide) (h2 : op ≠ .NotIn := by decide) : behindInMarks op b = false := by
  have e1 : (op == CmpOp.In) = false := by cases op <;> first | rfl | exact absurd rfl h
  have e2 : (op == CmpOp.NotIn) = false := by cases op <;> first | rfl | exact absurd rfl h2
  cases b <;> simp [behindInMarks, e1, e2]
/-- a comparison as a value; hm: nomark b, or (for in, not in) by with_unfolding_all rfl -/
theorem pe_cmpR {op : CmpOp} {r : R2} (ho : OpR X (compareOp op) r) (ha : PE X a ta) (hb : PE X b tb) (hm : behindInMarks op b = false) : PE X (.Compare a [op] [b] pos) (tOp r ta tb) := by
  intro pins s σ H Q I h
  exact wpAny_Compare1 (binT ha hb I h fun v u s2 x y H2 I2 rx ry q => ho pins s2 σ H2 x y v u Q I2 rx ry q) hm
/-- a reading of a value as a test -/
def tTest (t : TE) : TT := fun σ H Q => t σ H fun x H' => ∃ k, x = .bl k ∧ Q k H'
theorem pt_cmpR {op : CmpOp} {r : R2} (ho : OpR X (compareOp op) r) (ha : PE X a ta) (hb : PE X b tb) (hm : behindInMarks op b = false) : PT X (.Compare a [op] [b] pos) (tTest (tOp r ta tb)) := by
  intro pins s σ H Q I h
  refine wpAny_isTrue_Compare1 (thn (ha pins s σ H _ I h) fun v s1 ⟨x, H1, I1, r1, q1⟩ => thn (hb pins s1 σ H1 _ I1 q1) fun u s2 ⟨y, H2, I2, r2, q2⟩ =>
    thn (ho pins s2 σ H2 x y v u _ I2 r1 r2 q2) fun c s3 ⟨z, H3, I3, r3, k, e, q3⟩ => ?_) hm
  subst e
  cases r3
  exact wpAny_truthy_bool ⟨H3, I3, q3⟩
/-! ### truth -/
theorem line63 : (sizeLine : Nat) < 2 ^ 63 := by rw [sizeLine_eq]; decide
/-! ### strs and bytes -/
/-! ### scalar builtins, by CallR -/
theorem vals1 {x : V} {us : List Value} (r : Vals [x] us) : ∃ u, us = [u] ∧ RelV x u := by
  cases r with
  | cons r1 r2 => cases r2; exact ⟨_, rfl, r1⟩
theorem vals2 {x y : V} {us : List Value} (r : Vals [x, y] us) : ∃ u w', us = [u, w'] ∧ RelV x u ∧ RelV y w' := by
  cases r with
  | cons r1 r2 =>
    cases r2 with
    | cons r3 r4 => cases r4; exact ⟨_, _, rfl, r1, r3⟩
theorem call_min2 (hc : X.calm = true) : CallR X (.builtin "min") (fun xs H Q => ∃ i j, xs = [.int i, .int j] ∧ Q (.int (if j < i then j else i)) H) := by
  intro pins s σ H xs us Q I r h
  obtain ⟨i, j, rfl, q⟩ := h
  obtain ⟨u, w', rfl, ⟨t, rfl⟩, ⟨t', rfl⟩⟩ := vals2 r
  refine min_two_ints (I.ok.hd hc) fun h' tk k => ⟨_, H, I.kept k, ?_, q⟩
  by_cases hj : j < i
  · rw [if_pos hj, if_pos hj]; exact ⟨_, rfl⟩
  · rw [if_neg hj, if_neg hj]; exact ⟨_, rfl⟩
end
end L2

namespace L2
open PySem PySem.Spec PyProof.Rows

/-! ### an instance, its attributes a map -/
structure ObjM (h : Heap) (x dx C : Addr) (mA : Str → Option Value) : Prop where
  obj : h.get? x = some (PySem.W.instObj C dx)
  ns : h.Ns1 dx mA
  ne : dx ≠ x

theorem lookIn_ns {h : Heap} {dx : Addr} {mA : Str → Option Value} (n : h.Ns1 dx mA) : ∃ od, h.get? dx = some od ∧ ∀ name, PySem.W.lookIn name od = some (mA name) := by
  obtain ⟨o, es, ep, ho, hd, hk, _, hm⟩ := n
  refine ⟨o, ho, fun name => ?_⟩
  have e := hm name
  unfold nsFind findBy at e
  rw [← Array.find?_toList] at e
  unfold PySem.W.lookIn
  rw [hd]
  dsimp only
  split
  · rename_i y q
    rw [q] at e
    exact congrArg some e
  · rename_i q
    rw [q] at e
    have a : es.toList.any (·.refKey) = false := by
      rw [List.any_eq_false]
      intro y hy
      obtain ⟨z, t, hkey⟩ := hk y (Array.mem_toList_iff.mp hy)
      simp [DictEntry.refKey, hkey]
    have a' : ¬ es.toList.any (·.refKey) = true := by rw [a]; exact Bool.false_ne_true
    rw [if_neg a']
    exact congrArg some e

theorem ObjM.look {h : Heap} {x dx C : Addr} {mA : Str → Option Value} (I : ObjM h x dx C mA) : ∃ od, PySem.W.InstAt h x (PySem.W.instObj C dx) C (some od) ∧ ∀ name, PySem.W.lookIn name od = some (mA name) :=
  let ⟨od, ho, hl⟩ := lookIn_ns I.ns
  ⟨od, ⟨I.obj, rfl, rfl, ho⟩, hl⟩

section
variable {prog : Program} {w : World} {A : Around} {E : Value → Shared → Prop} {s : Shared} {K : PySem.W.Frag} {x dx C f : Addr} {mA : Str → Option Value} {name : Str} {v : Value}

theorem get_map {expr : Bool} {Q : Value → Shared → Prop} (X : K.In s.heap) (I : ObjM s.heap x dx C mA) (hg : PySem.W.plainGet K C name = true) (hh : PySem.W.hasDictIn K C = true)
    (ha : PySem.W.findIn K (.ref C) name = some none) (hv : mA name = some v) (hv' : PySem.W.handedIn v = true) (h : Q v { s with toks := s.toks + 1 }) :
    wpAny (model prog w) A (getAttr (.ref x) name expr) Q E s := by
  obtain ⟨od, J, hl⟩ := I.look
  exact PySem.W.get_value X J (PySem.W.plainGet_of hg).1 (PySem.W.findObj_own hh ha rfl (by rw [hl, hv])) hv' h

theorem get_meth {pl : Sem Bool} {Q : Value × List Value → Shared → Prop} (X : K.In s.heap) (I : ObjM s.heap x dx C mA) (hg : PySem.W.plainGet K C name = true)
    (hf : PySem.W.findIn K (.ref C) name = some (some (.ref f))) (ht : PySem.W.isFn K (.ref f) = true) (hv : mA name = none) (h : Q (.ref f, [.ref x]) s) :
    wpAny (model prog w) A (getMethod (.ref x) name pl) Q E s := by
  obtain ⟨od, J, hl⟩ := I.look
  exact PySem.W.method_fn X J (PySem.W.plainGet_of hg).1 (PySem.W.plainGet_of hg).2 hf (beq_iff_eq.mp ht) (by show (PySem.W.lookIn name od).map (·.isSome) = some false; rw [hl, hv]; rfl) h

theorem set_map {ns : List Str} {Q : Unit → Shared → Prop} (X : K.In s.heap) (I : ObjM s.heap x dx C mA)
    (hs : PySem.W.findIn K (.ref C) "__setattr__" = some (some (.builtin "object.__setattr__"))) (hp : PySem.W.plainOver K C = true) (ht : PySem.W.takerIn K C name = some none) (hh : PySem.W.hasDictIn K C = true)
    (hw : PySem.Within mA ns) (hsz : ns.length ≤ sizeLine)
    (h : ∀ h', ObjM h' x dx C (fun y => if y = name then some v else mA y) → Heap.SameBut dx s.heap h' → Q () { s with heap := h', toks := s.toks + 2 }) :
    wpAny (model prog w) A (setAttr (.ref x) name v) Q E s := by
  obtain ⟨od, J, hl⟩ := I.look
  refine PySem.W.set_plain X J hs (PySem.W.osa_open (s := { s with toks := s.toks + 1 }) (r := none) X J hp ht fun b => ?_)
  obtain ⟨cd, hc, hd'⟩ := PySem.W.any_some hh
  have hx : s.heap.get? x = some ⟨.ref C, some dx, .plain, #[]⟩ := I.obj
  refine wpAny_bind (wpAny_pure (wpAny_bind (wpAny_bind (wpAny_loadPart hx (wpAny_bind (PySem.W.Looks.here (s := { s with toks := s.toks + 1 }) (PySem.W.looks_clsIn X hc) ?_))))))
  rw [hd']
  refine wpAny_pure (a := some dx) (wpAny_bind (wpAny_pure (wpAny_bind ?_)))
  refine wpAny_nsSet1 (s := { s with toks := s.toks + 1 }) I.ns fun h' hn2 hs2 => ?_
  obtain ⟨oD, esD, epD, hoD, hdD, hcD⟩ := hn2.count (PySem.Within.cons name v hw)
  refine wpAny_bind (wpAny_lookBehind hoD (by rw [hdD]; exact pastItsLine_dict (Nat.le_trans hcD (by rw [List.length_cons]; omega))) ?_)
  exact wpAny_pure (h _ ⟨(hs2.2 _ (Ne.symm I.ne)).trans I.obj, hn2, I.ne⟩ hs2)

/-- C(..): the dict at the heap's end, the instance behind it; then its __init__ -/
theorem make_map {R : Result → Shared → Prop} {vs : List Value} {kw : List (Str × Value)} (X : K.In s.heap) (hm : PySem.W.makesIn K C = true)
    (hi : PySem.W.findIn K (.ref C) "__init__" = some (some (.ref f))) (hf : PySem.W.typeIn K (.ref f) = some (.type "function"))
    (h : codeAny (model prog w) (A.under (.builtin "type.__call__" ⟨.ref C :: vs, kw⟩)) (.call (.ref f) ⟨.ref (s.heap.objs.size + 1) :: vs, kw⟩) (PySem.W.InitBack (s.heap.objs.size + 1) R)
      { s with heap := (s.heap.push PySem.W.emptyDict).push (PySem.W.instObj C s.heap.objs.size) }) :
    codeAny (model prog w) A (.call (.ref C) ⟨vs, kw⟩) R s := by
  obtain ⟨hh, g, d, t, os⟩ := s
  exact PySem.W.make_core (PySem.W.makes_of X hm) (PySem.W.looks_findIn X hi) (fun self => PySem.W.bind_fn X self hf) (.inl rfl) h
end

/-! ### the attributes as a list of pairs -/
def putF (f : Str) (v : V) : List (Str × V) → List (Str × V)
  | [] => [(f, v)]
  | (g, x) :: r => if g = f then (g, v) :: r else (g, x) :: putF f v r
theorem lookup_putF (f g : Str) (v : V) : ∀ fs : List (Str × V), (putF f v fs).lookup g = if g = f then some v else fs.lookup g
  | [] => by
    show List.lookup g [(f, v)] = _
    by_cases h : g = f
    · have hb : (g == f) = true := beq_iff_eq.mpr h
      simp only [List.lookup, hb, if_pos h]
    · have hb : (g == f) = false := beq_eq_false_iff_ne.mpr h
      simp only [List.lookup, hb, if_neg h]
  | (k, x) :: r => by
    have ih := lookup_putF f g v r
    rw [show putF f v ((k, x) :: r) = (if k = f then (k, v) :: r else (k, x) :: putF f v r) from rfl]
    by_cases hk : k = f
    · rw [if_pos hk]
      by_cases h : g = k
      · have hb : (g == k) = true := beq_iff_eq.mpr h
        simp only [List.lookup, hb, if_pos (h.trans hk)]
      · have hb : (g == k) = false := beq_eq_false_iff_ne.mpr h
        simp only [List.lookup, hb, if_neg (fun e : g = f => h (e.trans hk.symm))]
    · rw [if_neg hk]
      by_cases h : g = k
      · have hb : (g == k) = true := beq_iff_eq.mpr h
        simp only [List.lookup, hb, if_neg (fun e : g = f => hk (h.symm.trans e))]
      · have hb : (g == k) = false := beq_eq_false_iff_ne.mpr h
        simp only [List.lookup, hb]
        exact ih
theorem keys_putF (f : Str) (v : V) : ∀ fs : List (Str × V), f ∈ (putF f v fs).map (·.1) ∧ ∀ g, g ∈ fs.map (·.1) → g ∈ (putF f v fs).map (·.1)
  | [] => ⟨by simp [putF], fun g h => by simp at h⟩
  | (k, x) :: r => by
    obtain ⟨i1, i2⟩ := keys_putF f v r
    rw [show putF f v ((k, x) :: r) = (if k = f then (k, v) :: r else (k, x) :: putF f v r) from rfl]
    by_cases hk : k = f
    · rw [if_pos hk]
      subst hk
      exact ⟨by simp, fun g h => by simpa using h⟩
    · rw [if_neg hk]
      refine ⟨?_, fun g h => ?_⟩
      · rw [List.map_cons]
        exact List.mem_cons_of_mem _ i1
      · rw [List.map_cons] at h ⊢
        rcases List.mem_cons.mp h with e | e
        · exact List.mem_cons.mpr (.inl e)
        · exact List.mem_cons_of_mem _ (i2 g e)
theorem length_putF (f : Str) (v : V) : ∀ fs : List (Str × V), (putF f v fs).length ≤ fs.length + 1
  | [] => by simp [putF]
  | (k, x) :: r => by
    have ih := length_putF f v r
    rw [show putF f v ((k, x) :: r) = (if k = f then (k, v) :: r else (k, x) :: putF f v r) from rfl]
    by_cases hk : k = f
    · rw [if_pos hk, List.length_cons, List.length_cons]; omega
    · rw [if_neg hk, List.length_cons, List.length_cons]; omega

theorem RelO.some_of {v : V} {o : Option Value} (r : RelO (some v) o) : ∃ u, o = some u ∧ RelV v u := by
  cases o with
  | none => exact (show False from r).elim
  | some u => exact ⟨u, rfl, r⟩
theorem RelO.none_of {o : Option Value} (r : RelO none o) : o = none := by
  cases o with
  | none => rfl
  | some u => exact (show False from r).elim
theorem handed_of {v : V} {u : Value} (r : RelV v u) : PySem.W.handedIn u = true := by
  cases v with
  | non => cases (show u = Value.none from r); rfl
  | bl b => cases (show u = Value.bool b from r); rfl
  | int i => obtain ⟨t, e⟩ := (show ∃ t, u = Value.int i t from r); cases e; rfl
  | str x => obtain ⟨t, e⟩ := (show ∃ t, u = Value.str x t from r); cases e; rfl
  | byt b => obtain ⟨t, e⟩ := (show ∃ t, u = Value.bytes b t from r); cases e; rfl
  | flt b => obtain ⟨t, e⟩ := (show ∃ t, u = Value.float b t from r); cases e; rfl
  | ref a => cases (show u = Value.ref a from r); rfl
  | ty n => cases (show u = Value.type n from r); rfl

section
variable {P : Program} {w : World} {H H' : Hp} {h h' : Heap} {a C dx : Addr} {fs fs' : List (Str × V)}
theorem ins_get (hok : HOk P w H h) (e : H a = some (.ins C dx fs)) : ∃ mA, ObjM h a dx C mA ∧ (∀ f, RelO (fs.lookup f) (mA f)) ∧ PySem.Within mA (fs.map (·.1)) ∧ fs.length ≤ 1000 ∧ H dx = some (.own a) := by
  obtain ⟨d, z, ne, ob, mA, n, r, q⟩ := (show ObjOk P w H h a (.ins C dx fs) from hok a _ e)
  exact ⟨mA, ⟨ob, n, ne⟩, r, q, z, d⟩
end

/-! ### what of the text a class must have -/
structure Cls (K : PySem.W.Frag) (C : Addr) : Prop where
  pg : PySem.W.plainGet K C Str.empty = true
  hd : PySem.W.hasDictIn K C = true
  po : PySem.W.plainOver K C = true
  sa : PySem.W.findIn K (.ref C) "__setattr__" = some (some (.builtin "object.__setattr__"))
theorem Cls.get {K : PySem.W.Frag} {C : Addr} (c : Cls K C) (f : Str) : PySem.W.plainGet K C f = true := c.pg
/-- no class of it has the name -/
def NoAttr (K : PySem.W.Frag) (C : Addr) (f : Str) : Prop := PySem.W.findIn K (.ref C) f = some none
theorem NoAttr.taker {K : PySem.W.Frag} {C : Addr} {f : Str} (n : NoAttr K C f) : PySem.W.takerIn K C f = some none := by
  unfold PySem.W.takerIn
  rw [show PySem.W.findIn K (.ref C) f = some none from n]
  rfl
/-- a method: a plain def of the class or of one above it -/
structure Meth (K : PySem.W.Frag) (C : Addr) (m : Str) (f : Addr) : Prop where
  at_ : PySem.W.findIn K (.ref C) m = some (some (.ref f))
  fn : PySem.W.isFn K (.ref f) = true
  kp : PySem.W.keepIn K (.ref f) = true

section
variable {X : Cx} {pins : List (Addr × Obj)} {σ : St} {H : Hp} {s : Shared} {a C dx : Addr} {fs : List (Str × V)} {f : Str} {v : V} {A : Around} {E : Value → Shared → Prop}

theorem getattr_ok {b : Bool} {Q : Value → Shared → Prop} (I : Inv X pins σ H s) (e : H a = some (.ins C dx fs)) (c : Cls X.K C) (n : NoAttr X.K C f) (l : fs.lookup f = some v)
    (h : ∀ u s', Inv X pins σ H s' → RelV v u → Q u s') : wpAny (model X.prog X.w) A (getAttr (.ref a) f b) Q E s := by
  obtain ⟨mA, O, r, _, _, _⟩ := ins_get I.hok e
  obtain ⟨u, hu, ru⟩ := RelO.some_of (v := v) (o := mA f) (by rw [← l]; exact r f)
  exact get_map I.kIn O (c.get f) c.hd n hu (handed_of ru) (h u _ (I.tok _) ru)

theorem getmeth_ok {m : Str} {g : Addr} {pl : Sem Bool} {Q : Value × List Value → Shared → Prop} (I : Inv X pins σ H s) (e : H a = some (.ins C dx fs)) (c : Cls X.K C) (k : Meth X.K C m g) (l : fs.lookup m = none)
    (h : Q (.ref g, [.ref a]) s) : wpAny (model X.prog X.w) A (getMethod (.ref a) m pl) Q E s := by
  obtain ⟨mA, O, r, _, _, _⟩ := ins_get I.hok e
  have hn : mA m = none := RelO.none_of (by rw [← l]; exact r m)
  exact get_meth I.kIn O (c.get m) k.at_ k.fn hn h

theorem setattr_ok {y : V} {u : Value} {Q : Unit → Shared → Prop} (I : Inv X pins σ H s) (e : H a = some (.ins C dx fs)) (c : Cls X.K C) (n : NoAttr X.K C f) (hl : fs.length < 1000) (ry : RelV y u)
    (h : ∀ s', Inv X pins σ (upd H a (.ins C dx (putF f y fs))) s' → Q () s') : wpAny (model X.prog X.w) A (setAttr (.ref a) f u) Q E s := by
  obtain ⟨mA, O, r, wi, _, ho⟩ := ins_get I.hok e
  have hz : (fs.map (·.1)).length ≤ sizeLine := by rw [List.length_map, sizeLine_eq]; omega
  refine set_map I.kIn O c.sa c.po n.taker c.hd wi hz fun h' O' sb => h _ ?_
  have hd : ∃ o, h'.get? dx = some o := let ⟨o, _, _, e', _⟩ := O'.ns; ⟨o, e'⟩
  refine I.write (x := a) (e := dx) (by rw [e]; exact True.intro) (.inr ho) (fun b q hb z => (sb.2 b hb).trans z) hd ?_
  refine ⟨by rw [upd_ne O.ne]; exact ho, ?_, O.ne, O'.obj, _, O'.ns, fun g => ?_, fun g hg => ?_⟩
  · have := length_putF f y fs; omega
  · show RelO ((putF f y fs).lookup g) (if g = f then some u else mA g)
    rw [lookup_putF]
    by_cases q : g = f
    · rw [if_pos q, if_pos q]; exact ry
    · rw [if_neg q, if_neg q]; exact r g
  · by_cases q : g = f
    · rw [q]; exact (keys_putF f y fs).1
    · refine (keys_putF f y fs).2 g (wi g fun z => hg ?_)
      show (if g = f then some u else mA g) = none
      rw [if_neg q]; exact z

/-- a new instance, tracked, without attributes -/
theorem Inv.made (I : Inv X pins σ H s) : Inv X pins σ (upd (upd H s.heap.objs.size (.own (s.heap.objs.size + 1))) (s.heap.objs.size + 1) (.ins C s.heap.objs.size []))
    { s with heap := (s.heap.push PySem.W.emptyDict).push (PySem.W.instObj C s.heap.objs.size) } := by
  have e1 : (s.heap.push PySem.W.emptyDict).get? s.heap.objs.size = some PySem.W.emptyDict := Heap.get?_push_size s.heap rfl
  have e2 : ((s.heap.push PySem.W.emptyDict).push (PySem.W.instObj C s.heap.objs.size)).get? (s.heap.objs.size + 1) = some (PySem.W.instObj C s.heap.objs.size) := by
    have := Heap.get?_push_size (s.heap.push PySem.W.emptyDict) (o := PySem.W.instObj C s.heap.objs.size) rfl
    rwa [Heap.size_push] at this
  have e3 : (s.heap.push PySem.W.emptyDict).Ns s.heap.objs.size (fun _ => none) := ⟨PySem.W.emptyDict, #[], _, e1, rfl, (fun e he => absurd he (by simp)), fun _ => rfl⟩
  have I1 := I.laid (a := s.heap.objs.size) (o := .own (s.heap.objs.size + 1)) (h' := s.heap.push PySem.W.emptyDict) (t' := s.toks) (fun b u q => Heap.get?_push_of_some _ q) (Nat.le_refl _) ⟨_, e1⟩
  refine I1.laid (a := s.heap.objs.size + 1) (o := .ins C s.heap.objs.size []) (t' := s.toks) (fun b u q => Heap.get?_push_of_some _ q) (Nat.le_of_eq (Heap.size_push _ _)) ?_
  have ne : s.heap.objs.size ≠ s.heap.objs.size + 1 := Nat.ne_of_lt (Nat.lt_succ_self _)
  refine ⟨by rw [upd_ne ne, upd_same], Nat.zero_le _, ne, e2, fun _ => none, (Heap.Ns1.of_empty e3).at fun o q => Heap.get?_push_of_some _ q, fun _ => True.intro, fun y hy => absurd rfl hy⟩

/-- e.f where nothing but the object is asked: through attributeBase (super) and the last hold -/
theorem attr_of {prog : Program} {w : World} {env : Env} {e : Expr} {f : Str} {pos : Pos} {s : Shared} {Q : Value → Shared → Prop} (hb : attributeBase e f env (eval e env) = eval e env)
    (h : wpAny (model prog w) A (eval e env) (fun o s₁ => wpAny (model prog w) A (getAttr o f true) Q E s₁) E s) : wpAny (model prog w) A (eval (.Attribute e f pos) env) Q E s :=
  Attribute_any_ h (by rw [arm_eval_Attribute, hb])
end

/-! ### readings and rules -/
/-- e.f, an attribute of the instance -/
def tFld (K : PySem.W.Frag) (ta : TE) (f : Str) : TE := fun σ H Q => ta σ H fun x H1 => ∃ a C dx fs v, x = .ref a ∧ H1 a = some (.ins C dx fs) ∧ Cls K C ∧ NoAttr K C f ∧ fs.lookup f = some v ∧ Q v H1
/-- e.f = value -/
def sFld (K : PySem.W.Frag) (ta tv : TE) (f : Str) : TS := fun D σ H => tv σ H fun y H1 => ta σ H1 fun x H2 => ∃ a C dx fs, x = .ref a ∧ H2 a = some (.ins C dx fs) ∧ Cls K C ∧ NoAttr K C f ∧ fs.length < 1000 ∧
  D.nx σ (upd H2 a (.ins C dx (putF f y fs)))
section
variable {X : Cx} {o e value : Expr} {f : Str} {pos pos' tpos : Pos} {ta tv : TE}
theorem pe_fld (he : PE X e ta) (hb : attributeBase e f X.env (eval e X.env) = eval e X.env) : PE X (.Attribute e f pos) (tFld X.K ta f) := by
  intro pins s σ H Q I h
  refine attr_of hb (thn (he pins s σ H _ I h) fun u s1 ⟨x, H1, I1, rx, a, C, dx, fs, v, ex, ea, c, n, l, q⟩ => ?_)
  subst ex
  obtain rfl : u = Value.ref a := rx
  exact getattr_ok I1 ea c n l fun u' s2 I2 ru => ⟨v, H1, I2, ru, q⟩
theorem ps_fld (ha : PE X o ta) (hv : PE X value tv) (hs : swapsWith value (some (.Attribute o f pos')) pos.line X.env = pure false) : PS X (.Assign [.Attribute o f pos'] value pos) (sFld X.K ta tv f) := by
  intro pins s σ H D I h
  refine plainObj_wpAny_Assign_Attribute (thn (hv pins s σ H _ I h) fun u s1 ⟨y, H1, I1, ry, q⟩ => thn (ha pins s1 σ H1 _ I1 q) fun ov s2 ⟨x, H2, I2, rx, a, C, dx, fs, ex, ea, c, n, l, q2⟩ => ?_) hs
  subst ex
  obtain rfl : ov = Value.ref a := rx
  exact setattr_ok I2 ea c n l ry fun s3 I3 => ⟨σ, _, I3, q2⟩
end

/-! ### isinstance -/
section
variable {X : Cx} {pins : List (Addr × Obj)} {σ : St} {H : Hp} {s : Shared} {A : Around} {E : Value → Shared → Prop} {Q : Value → Shared → Prop} {c : Value} {b : Bool}
end
end L2

namespace L2
open PySem PySem.Spec PyProof.Rows

/-! ### room -/
structure Room (k : Nat) (A : Around) : Prop where
  hd : A.handled = none
  dp : A.depth + 3 * k + 5 < recursionLimit
  un : A.units + 16 * k + 200 < cLine
theorem Room.mono {j k : Nat} {A : Around} (r : Room k A) (h : j ≤ k) : Room j A := ⟨r.hd, by have := r.dp; omega, by have := r.un; omega⟩
theorem Room.deeper {k : Nat} {A : Around} (r : Room (k + 1) A) (env : Env) : Room k (A.deeper env) :=
  ⟨r.hd, by have := r.dp; show A.depth + 1 + 3 * k + 5 < _; omega, by have := r.un; show A.units + 3 + 16 * k + 200 < _; omega⟩
theorem Room.in1 {k : Nat} {A : Around} (r : Room (k + 1) A) : Room k A.in1 :=
  ⟨r.hd, by have := r.dp; show A.depth + 3 * k + 5 < _; omega, by have := r.un; show A.units + 1 + 16 * k + 200 < _; omega⟩
theorem make_depth {A : Around} {C : Addr} {us : List Value} {kw : List (Str × Value)} : (A.under (.builtin "type.__call__" ⟨.ref C :: us, kw⟩)).depth = A.depth + 1 := by
  first | rfl | simp [Around.under, Code.weight, Code.isCreation, Code.isGuard, Code.isCaller, Code.frames, Code.isFrame, guardIds]
theorem make_units {A : Around} {C : Addr} {us : List Value} {kw : List (Str × Value)} : (A.under (.builtin "type.__call__" ⟨.ref C :: us, kw⟩)).units = A.units + 1 := by
  first | rfl | simp [Around.under, Code.cUnits, Code.frames, Code.isFrame]
theorem Room.make {k : Nat} {A : Around} (r : Room (k + 1) A) (C : Addr) (us : List Value) (kw : List (Str × Value)) : Room k (A.under (.builtin "type.__call__" ⟨.ref C :: us, kw⟩)) :=
  ⟨r.hd, by have := r.dp; rw [make_depth]; omega, by have := r.un; rw [make_units]; omega⟩
theorem Room.depth {k : Nat} {A : Around} (r : Room k A) : A.depth < recursionLimit := by have := r.dp; omega
theorem Room.units {k : Nat} {A : Around} (r : Room k A) : A.units + 64 < cLine := by have := r.un; omega
/-! ### argument lists and displays -/
def tNil : TA := fun _ H Q => Q [] H
def tCons (ta : TE) (tr : TA) : TA := fun σ H Q => ta σ H fun x H1 => tr σ H1 fun xs H2 => Q (x :: xs) H2
section
variable {X : Cx} {e : Expr} {es : List Expr} {te : TE} {t : TA} {pos : Pos}
theorem pa_nil : PA X [] tNil := fun _ _ _ _ H Q I h => Calls.spliced_nil ⟨[], H, I, .nil, h⟩
theorem pa_cons (ha : PE X e te) (hr : PA X es t) (hs : starEach (e :: es) X.env = (false, eval e X.env) :: starEach es X.env := by rfl) : PA X (e :: es) (tCons te t) := by
  intro pos pins s σ H Q I h
  rw [hs]
  show wpAny _ _ (spliced ((false, eval e X.env) :: backTo pos (starEach es X.env))) _ _ s
  refine Calls.spliced_cons (thn (ha pins s σ H _ I h) fun u s1 ⟨x, H1, I1, r1, q1⟩ => ?_)
  exact thn (hr pos pins s1 σ H1 _ I1 q1) fun us s2 ⟨xs, H2, I2, r2, q2⟩ => ⟨x :: xs, H2, I2, .cons r1 r2, q2⟩

def tLst (t : TA) : TE := fun σ H Q => t σ H fun xs H1 => xs.length ≤ sizeLine ∧ ∀ p, H1 p = none → Q (.ref p) (upd H1 p (.lst xs))
theorem pe_lst (h : PA X es t) : PE X (.List es pos) (tLst t) := by
  intro pins s σ H Q I hq
  refine wpAny_List_spliced (thn (h pos pins s σ H _ I hq) fun us s1 ⟨xs, H1, I1, r, z, q⟩ => ⟨by rw [← r.length]; exact z, ?_⟩)
  have hf : H1 s1.heap.objs.size = none := I1.hok.fresh (Nat.le_refl _)
  refine ⟨.ref s1.heap.objs.size, upd H1 s1.heap.objs.size (.lst xs), I1.laid (t' := s1.toks) (fun b u e => Heap.get?_push_of_some _ e) (Nat.le_refl _) ?_, rfl, q _ hf⟩
  exact ⟨z, us, 0, r, Heap.get?_push_size _ rfl⟩
end

/-! ### what a def promises -/
/-- a def's promise: the bound arguments in the parameters' order, the heap, the wanted end, the wanted exception -/
abbrev Sp := List V → Hp → VK → XK → Prop
/-- how an exception lies behind a call (file 08 gives it): the callers' frames, abstract heap and state ahead of the call, the wish, the exception, the state -/
abbrev CXT := List Env → Hp → Shared → XK → Value → Shared → Prop

/-- the state at a call -/
structure Env0 (P : Program) (w : World) (K : PySem.W.Frag) (mg : Str → Option Value) (base : Heap) (A : Around) (outer : List Env) (s : Shared) (H : Hp) : Prop where
  frames : A.frames = some outer
  mod : Mod K mg base
  bs : ∀ b o, base.get? b = some o → s.heap.get? b = some o ∧ H b = none
  bsz : base.objs.size ≤ s.heap.objs.size
  funs : s.heap.FunFrames base outer
  frf : ∀ b ∈ frs outer, H b = none
  hok : HOk P w H s.heap
  bare : AllBare s.gens
/-- a call's end -/
def CE (outer : List Env) (P : Program) (w : World) (H : Hp) (s : Shared) (Q : VK) (u : Value) (s' : Shared) : Prop :=
  ∃ v H', s'.os = s.os ∧ AllBare s'.gens ∧ Un (frs outer) [] H H' s.heap s'.heap ∧ HOk P w H' s'.heap ∧ RelV v u ∧ Q v H'
def CR (CX : CXT) (outer : List Env) (P : Program) (w : World) (H : Hp) (s : Shared) (Q : VK) (E : XK) (r : Result) (s' : Shared) : Prop :=
  match r with
  | .ok (.ret u) => CE outer P w H s Q u s'
  | .ok _ => False
  | .error e => CX outer H s E e s'
structure FnOk (P : Program) (w : World) (K : PySem.W.Frag) (mg : Str → Option Value) (base : Heap) (CX : CXT) (k : Nat) (f : Addr) (fd : FuncData) (ps : List Str) (sp : Sp) : Prop where
  len : ∀ vs H Q E, sp vs H Q E → vs.length = ps.length
  run : ∀ (A : Around) (outer : List Env) (s : Shared) (H : Hp) (args : Args) (us : List Value) (vs : List V) (Q : VK) (E : XK), Room k A → Env0 P w K mg base A outer s H → BindsTo s fd args (ps.zip us) → Vals vs us → sp vs H Q E →
    codeAny (model P w) A (.call (.ref f) args) (CR CX outer P w H s Q E) s
theorem FnOk.mono {P : Program} {w : World} {K : PySem.W.Frag} {mg : Str → Option Value} {base : Heap} {CX : CXT} {j k : Nat} {f : Addr} {fd : FuncData} {ps : List Str} {sp : Sp} (F : FnOk P w K mg base CX j f fd ps sp) (h : j ≤ k) :
    FnOk P w K mg base CX k f fd ps sp := ⟨F.len, fun A outer s H args us vs Q E hr => F.run A outer s H args us vs Q E (hr.mono h)⟩
/-- a weaker promise -/
theorem FnOk.imp {P : Program} {w : World} {K : PySem.W.Frag} {mg : Str → Option Value} {base : Heap} {CX : CXT} {k : Nat} {f : Addr} {fd : FuncData} {ps : List Str} {sp sp' : Sp} (F : FnOk P w K mg base CX k f fd ps sp)
    (h : ∀ vs H Q E, sp' vs H Q E → sp vs H Q E) : FnOk P w K mg base CX k f fd ps sp' :=
  ⟨fun vs H Q E q => F.len vs H Q E (h _ _ _ _ q), fun A outer s H args us vs Q E hr he hb hv hs => F.run A outer s H args us vs Q E hr he hb hv (h _ _ _ _ hs)⟩

theorem Env0.make {P : Program} {w : World} {K : PySem.W.Frag} {mg : Str → Option Value} {base : Heap} {A : Around} {outer : List Env} {s : Shared} {H : Hp} (e : Env0 P w K mg base A outer s H) (C : Addr) (us : List Value) (kw : List (Str × Value)) :
    Env0 P w K mg base (A.under (.builtin "type.__call__" ⟨.ref C :: us, kw⟩)) outer s H := ⟨by first | exact e.frames | (simpa [Around.under, Code.envs, Code.isFrame, pushEnvs] using e.frames), e.mod, e.bs, e.bsz, e.funs, e.frf, e.hok, e.bare⟩
theorem Env0.in1 {P : Program} {w : World} {K : PySem.W.Frag} {mg : Str → Option Value} {base : Heap} {A : Around} {outer : List Env} {s : Shared} {H : Hp} (e : Env0 P w K mg base A outer s H) :
    Env0 P w K mg base A.in1 outer s H := ⟨e.frames, e.mod, e.bs, e.bsz, e.funs, e.frf, e.hok, e.bare⟩

section
variable {X : Cx} {pins : List (Addr × Obj)} {σ : St} {H : Hp} {s s' : Shared}
/-- from a body: what a callee wants -/
theorem Inv.env0 (I : Inv X pins σ H s) : Env0 X.prog X.w X.K X.mg X.base X.A X.stack s H :=
  ⟨I.ok.frames, I.ok.mod, I.bs, Nat.le_trans I.ok.bsz I.sz, I.stack, I.stkFree, I.hok, I.bare⟩
/-- behind a call -/
theorem Inv.after {Q : VK} {u : Value} (I : Inv X pins σ H s) (h : CE X.stack X.prog X.w H s Q u s') : EP X pins σ Q u s' := by
  obtain ⟨v, H', os, bare, un, hok, r, q⟩ := h
  obtain ⟨hh, g, d, t, os'⟩ := s'
  obtain rfl : os' = s.os := os
  exact ⟨v, H', I.call (h' := hh) (g' := g) (d' := d) (t' := t) (ch := []) un hok bare (fun b z => absurd z (by simp)), r, q⟩
end

/-! ### calls -/
/-- f(..): the written arguments, then the defaults dvs; E: what is wanted of an exception -/
def tCall (sp : Sp) (dvs : List V) (E : XK) (t : TA) : TE := fun σ H Q => t σ H fun vs H1 => sp (vs ++ dvs) H1 Q E
/-- o.m(..) of an instance of the class at C -/
def tMeth (C : Addr) (m : Str) (sp : Sp) (dvs : List V) (E : XK) (ta : TE) (t : TA) : TE := fun σ H Q => ta σ H fun x H1 => ∃ a dx fs, x = .ref a ∧ H1 a = some (.ins C dx fs) ∧ fs.lookup m = none ∧
  t σ H1 fun vs H2 => sp (x :: (vs ++ dvs)) H2 Q E
/-- C(..): a new instance and its dict, then __init__ -/
def tMake (C : Addr) (sp : Sp) (dvs : List V) (E : XK) (t : TA) : TE := fun σ H Q => t σ H fun vs H1 => ∀ x dx, H1 x = none → H1 dx = none → dx ≠ x →
  sp (.ref x :: (vs ++ dvs)) (upd (upd H1 dx (.own x)) x (.ins C dx [])) (fun v H2 => v = .non ∧ Q (.ref x) H2) E

/-- how the parameters are bound: us the positional arguments, kw the keywords' values by name, ds the defaults that fill up -/
def Binds (K : PySem.W.Frag) (fd : FuncData) (ps : List Str) (ds : List Value) : Prop :=
  ∀ (s : Shared) (us : List Value), K.In s.heap → (us ++ ds).length = ps.length → BindsTo s fd ⟨us, []⟩ (ps.zip (us ++ ds))
/-- every parameter is given -/
theorem Binds.all {K : PySem.W.Frag} {fd : FuncData} {ps : List Str} (h : ∀ us : List Value, us.length = ps.length → bindArgs fd ⟨us, []⟩ = pure (ps.zip us)) : Binds K fd ps [] := fun s us _ hl => by
  rw [List.append_nil] at hl ⊢
  exact .of_eq (h us hl)

/-- an exception of a callee reaches what this body wants of exceptions -/
def Passes (CX : CXT) (X : Cx) (E : XK) : Prop := ∀ (pins : List (Addr × Obj)) (σ : St) (H : Hp) (s : Shared) (e : Value) (s' : Shared), Inv X pins σ H s → CX X.stack H s E e s' → X.xe e s'

section
variable {X : Cx} {CX : CXT} {k : Nat} {f C : Addr} {fd : FuncData} {ps : List Str} {sp : Sp} {dvs : List V} {ds : List Value} {E : XK} {x m : Str} {p pos apos : Pos} {e o : Expr} {es : List Expr} {ta : TE} {t : TA}

/-- the callee runs -/
theorem run_fn {pins : List (Addr × Obj)} {σ : St} {H : Hp} {s : Shared} {Q : VK} {us : List Value} {vs : List V} (F : FnOk X.prog X.w X.K X.mg X.base CX k f fd ps sp) (hr : Room k X.A) (hb : Binds X.K fd ps ds) (hd : Vals dvs ds) (hx : Passes CX X E)
    (I : Inv X pins σ H s) (r : Vals vs us) (h : sp (vs ++ dvs) H Q E) : wpAny (model X.prog X.w) X.A (call (.ref f) us) (EP X pins σ Q) X.xe s := by
  have r2 : Vals (vs ++ dvs) (us ++ ds) := r.append hd
  have hl : (us ++ ds).length = ps.length := by rw [← r2.length]; exact F.len _ _ _ _ h
  refine wpAny_call (codeAny_mono (F.run X.A X.stack s H ⟨us, []⟩ (us ++ ds) (vs ++ dvs) Q E hr I.env0 (hb s us I.kIn hl) r2 h) fun r s' hq => ?_)
  cases r with
  | error e => exact hx pins σ H s e s' I hq
  | ok fl =>
    cases fl with
    | ret u => exact I.after hq
    | next => exact False.elim hq
    | brk => exact False.elim hq
    | cont => exact False.elim hq

theorem pe_call (F : FnOk X.prog X.w X.K X.mg X.base CX k f fd ps sp) (hr : Room k X.A) (hg : Gl X x) (hm : X.mg x = some (.ref f)) (hk : PySem.W.keepIn X.K (.ref f) = true) (hb : Binds X.K fd ps ds) (hd : Vals dvs ds) (hx : Passes CX X E)
    (ha : PA X (e :: es) t) (hdb : (x == ("__debug__" : Str)) = false := by decide) (he : starEach (e :: es) X.env = (false, eval e X.env) :: starEach es X.env := by rfl) (hpl : (backTo pos (starEach es X.env)).any (·.1) = false := by rfl) :
    PE X (.Call (.Name x p) (e :: es) [] pos) (tCall sp dvs E t) := by
  intro pins s σ H Q I h
  refine wpAny_Call_Name_kw (ld_glob I hg hm ?_ hdb)
  refine PySem.W.callWith_K (h₀ := X.base) I.ok.mod.kin hk (thn (ha pos pins s σ H _ I h) fun us s1 ⟨vs, H1, I1, r, q⟩ => ⟨I1.kIn, ?_⟩) he hpl
  exact run_fn F hr hb hd hx I1 r q
/-- o.m(e, ..) -/
theorem pe_meth {pl : Sem Bool} (he : PE X o ta) (c : Cls X.K C) (hm : Meth X.K C m f) (F : FnOk X.prog X.w X.K X.mg X.base CX k f fd ps sp) (hr : Room k X.A) (hb : Binds X.K fd ps ds) (hd : Vals dvs ds) (hx : Passes CX X E) (ha : PA X (e :: es) t)
    (hst : starEach (e :: es) X.env = (false, eval e X.env) :: starEach es X.env := by rfl) (hpl : (backTo pos (starEach es X.env)).any (·.1) = false := by rfl)
    (ht : eval (.Call (.Attribute o m apos) (e :: es) [] pos) X.env = (do
      let ov ← eval o X.env
      standAt apos.atName
      let (f, first) ← holding [ov] (getMethod ov m pl)
      callWith pos f first (backTo pos (starEach (e :: es) X.env)) (backToKw pos (keywordEach [] X.env))) := by rfl) :
    PE X (.Call (.Attribute o m apos) (e :: es) [] pos) (tMeth C m sp dvs E ta t) := by
  intro pins s σ H Q I h
  refine PySem.W.methodCall_KW (pl := pl) (thn (he pins s σ H _ I h) fun u s1 ⟨x, H1, I1, rx, a, dx, fs, ex, ea, l, q⟩ => ?_) ht
  subst ex
  obtain rfl : u = Value.ref a := rx
  refine getmeth_ok I1 ea c hm l ?_
  refine PySem.W.callWith_K (first := [.ref a]) (h₀ := X.base) I.ok.mod.kin hm.kp (thn (ha pos pins s1 σ H1 _ I1 q) fun us s2 ⟨vs, H2, I2, r, q2⟩ => ⟨I2.kIn, ?_⟩) hst hpl
  exact run_fn (us := .ref a :: us) (vs := .ref a :: vs) F hr hb hd hx I2 (.cons rfl r) q2
/-- o.m() -/
theorem pe_meth0 {pl : Sem Bool} (he : PE X o ta) (c : Cls X.K C) (hm : Meth X.K C m f) (F : FnOk X.prog X.w X.K X.mg X.base CX k f fd ps sp) (hr : Room k X.A) (hb : Binds X.K fd ps ds) (hd : Vals dvs ds) (hx : Passes CX X E)
    (ht : eval (.Call (.Attribute o m apos) [] [] pos) X.env = (do
      let ov ← eval o X.env
      standAt apos.atName
      let (f, first) ← holding [ov] (getMethod ov m pl)
      callWith pos f first (backTo pos (starEach [] X.env)) (backToKw pos (keywordEach [] X.env))) := by rfl) :
    PE X (.Call (.Attribute o m apos) [] [] pos) (tMeth C m sp dvs E ta tNil) := by
  intro pins s σ H Q I h
  refine PySem.W.methodCall_KW (pl := pl) (thn (he pins s σ H _ I h) fun u s1 ⟨x, H1, I1, rx, a, dx, fs, ex, ea, l, q⟩ => ?_) ht
  subst ex
  obtain rfl : u = Value.ref a := rx
  refine getmeth_ok I1 ea c hm l ?_
  exact PySem.W.callWith_K0 (first := [.ref a]) I1.kIn hm.kp (run_fn (us := [.ref a]) (vs := [.ref a]) F hr hb hd hx I1 (.cons rfl .nil) q)

/-- what a class must have to be made -/
structure Mk (K : PySem.W.Frag) (C f : Addr) : Prop where
  makes : PySem.W.makesIn K C = true
  init : PySem.W.findIn K (.ref C) "__init__" = some (some (.ref f))
  fn : PySem.W.isFn K (.ref f) = true
  kp : PySem.W.keepIn K (.ref C) = true

theorem run_make {pins : List (Addr × Obj)} {σ : St} {H : Hp} {s : Shared} {Q : VK} {us : List Value} {vs : List V} (M : Mk X.K C f) (F : FnOk X.prog X.w X.K X.mg X.base CX k f fd ps sp) (hr : Room (k + 1) X.A) (hb : Binds X.K fd ps ds) (hd : Vals dvs ds)
    (hx : Passes CX X E) (I : Inv X pins σ H s) (r : Vals vs us)
    (h : ∀ x dx, H x = none → H dx = none → dx ≠ x → sp (.ref x :: (vs ++ dvs)) (upd (upd H dx (.own x)) x (.ins C dx [])) (fun v H2 => v = .non ∧ Q (.ref x) H2) E) :
    wpAny (model X.prog X.w) X.A (call (.ref C) us) (EP X pins σ Q) X.xe s := by
  have hq := h (s.heap.objs.size + 1) s.heap.objs.size (I.hok.fresh (Nat.le_succ _)) (I.hok.fresh (Nat.le_refl _)) (Nat.ne_of_lt (Nat.lt_succ_self _))
  have I2 := Inv.made (C := C) I
  have r2 : Vals (V.ref (s.heap.objs.size + 1) :: (vs ++ dvs)) (Value.ref (s.heap.objs.size + 1) :: (us ++ ds)) := .cons rfl (r.append hd)
  have hl : (Value.ref (s.heap.objs.size + 1) :: us ++ ds).length = ps.length := by
    have e := r2.length
    rw [F.len _ _ _ _ hq] at e
    exact e.symm
  refine wpAny_call (make_map (f := f) I.kIn M.makes M.init (beq_iff_eq.mp M.fn) (codeAny_mono (F.run _ X.stack _ _ ⟨Value.ref (s.heap.objs.size + 1) :: us, []⟩ (Value.ref (s.heap.objs.size + 1) :: (us ++ ds)) _ _ E (hr.make C us [])
    (I2.env0.make C us []) (hb _ (Value.ref (s.heap.objs.size + 1) :: us) I2.kIn hl) r2 hq) fun r s' hq' => ?_))
  cases r with
  | error e => exact hx pins σ _ _ e s' I2 hq'
  | ok fl =>
    cases fl with
    | ret u =>
      obtain ⟨v, H', I3, rv, ev, q3⟩ := I2.after hq'
      subst ev
      exact ⟨rv, ⟨V.ref (s.heap.objs.size + 1), H', I3, rfl, q3⟩⟩
    | next => exact False.elim hq'
    | brk => exact False.elim hq'
    | cont => exact False.elim hq'
theorem pe_make0 (M : Mk X.K C f) (F : FnOk X.prog X.w X.K X.mg X.base CX k f fd ps sp) (hr : Room (k + 1) X.A) (hg : Gl X x) (hm : X.mg x = some (.ref C)) (hb : Binds X.K fd ps ds) (hd : Vals dvs ds) (hx : Passes CX X E)
    (hdb : (x == ("__debug__" : Str)) = false := by decide) : PE X (.Call (.Name x p) [] [] pos) (tMake C sp dvs E tNil) := by
  intro pins s σ H Q I h
  refine wpAny_Call_Name_kw (ld_glob I hg hm ?_ hdb)
  exact PySem.W.callWith_K0 I.kIn M.kp (run_make (us := []) M F hr hb hd hx I .nil h)
end

/-! ### keywords -/
section
variable {X : Cx} {CX : CXT} {k : Nat} {f C : Addr} {fd : FuncData} {ps ks : List Str} {sp : Sp} {E : XK} {x m : Str} {p pos apos kpos : Pos} {e o : Expr} {es : List Expr} {kws : List Keyword} {te ta : TE} {t tk : TA} {nm : Option Str}
variable {g : List Value → List Value → List Value} {gV : List V → List V → List V}
end

/-! ### a def's body keeps its promise -/
/-- names: the parameters first -/
structure FnScope (N P : List Str) (sc : Scope) : Prop where
  kind : sc.kind = .function
  co : sc.isCoroutine = false
  gen : sc.isGenerator = false
  nd : N.Nodup
  pre : N.take P.length = P
  par : ∀ x ∈ P, sc.names.lookup x = some .local ∨ sc.names.lookup x = some .cell
  nofree : ∀ y ∈ sc.names, y.2 ≠ .free

theorem bindL_out {kindOf : Str → Option NameKind} {x : Str} : ∀ {binds : List (Str × Value)} {m : Str → Option Value}, (∀ v, (x, v) ∉ binds) → bindL kindOf binds m x = m x
  | [], _, _ => rfl
  | (n, v) :: r, m, h => by
    unfold bindL
    rw [bindL_out fun w hw => h w (List.mem_cons_of_mem _ hw)]
    split
    · have : x ≠ n := by rintro rfl; exact h v List.mem_cons_self
      simp [this]
    · rfl
theorem bindC_out {kindOf : Str → Option NameKind} {x : Str} : ∀ {binds : List (Str × Value)} {m : Str → Option Value}, (∀ v, (x, v) ∉ binds) → bindC kindOf binds m x = m x
  | [], _, _ => rfl
  | (n, v) :: r, m, h => by
    unfold bindC
    rw [bindC_out fun w hw => h w (List.mem_cons_of_mem _ hw)]
    split
    · rfl
    · have : x ≠ n := by rintro rfl; exact h v List.mem_cons_self
      simp [this]
theorem bindL_get {kindOf : Str → Option NameKind} {x : Str} {v : Value} : ∀ {P : List Str} {vs : List Value} {i : Nat} {m : Str → Option Value}, P.Nodup → P[i]? = some x → vs[i]? = some v → kindOf x = some .local →
    bindL kindOf (P.zip vs) m x = some v
  | [], _, _, _, _, h, _, _ => by simp at h
  | _ :: _, [], _, _, _, _, h, _ => by simp at h
  | p :: P, w :: vs, 0, m, nd, h1, h2, hk => by
    simp at h1 h2; subst h1; subst h2
    show bindL kindOf ((p, w) :: P.zip vs) m p = _
    unfold bindL
    rw [bindL_out fun v hv => (List.nodup_cons.mp nd).1 (List.of_mem_zip hv).1, if_pos hk]
    simp
  | p :: P, w :: vs, i + 1, m, nd, h1, h2, hk => by
    show bindL kindOf ((p, w) :: P.zip vs) m x = _
    unfold bindL
    exact bindL_get (i := i) (List.nodup_cons.mp nd).2 (by simpa using h1) (by simpa using h2) hk
theorem bindC_get {kindOf : Str → Option NameKind} {x : Str} {v : Value} : ∀ {P : List Str} {vs : List Value} {i : Nat} {m : Str → Option Value}, P.Nodup → P[i]? = some x → vs[i]? = some v → kindOf x ≠ some .local →
    bindC kindOf (P.zip vs) m x = some v
  | [], _, _, _, _, h, _, _ => by simp at h
  | _ :: _, [], _, _, _, _, h, _ => by simp at h
  | p :: P, w :: vs, 0, m, nd, h1, h2, hk => by
    simp at h1 h2; subst h1; subst h2
    show bindC kindOf ((p, w) :: P.zip vs) m p = _
    unfold bindC
    rw [bindC_out fun v hv => (List.nodup_cons.mp nd).1 (List.of_mem_zip hv).1, if_neg hk]
    simp
  | p :: P, w :: vs, i + 1, m, nd, h1, h2, hk => by
    show bindC kindOf ((p, w) :: P.zip vs) m x = _
    unfold bindC
    exact bindC_get (i := i) (List.nodup_cons.mp nd).2 (by simpa using h1) (by simpa using h2) hk

/-- the names' values at the entry -/
def start (N : List Str) (vs : List V) : St := vs.map some ++ List.replicate (N.length - vs.length) none

/-- the context of a def's body, at its entry; an exception leaves the frame, then lies as CX says -/
def cxOf (CX : CXT) (P : Program) (w : World) (K : PySem.W.Frag) (mg : Str → Option Value) (base : Heap) (N : List Str) (qual : Str) (scope : Scope) (f : Addr) (cd : Value) (A : Around) (outer : List Env) (s : Shared) (H : Hp) (E : XK) : Cx where
  prog := P
  w := w
  K := K
  mg := mg
  base := base
  A := A.deeper (envOfC qual scope s.heap.objs.size f cd)
  N := N
  s_0 := s
  H_0 := H
  env := envOfC qual scope s.heap.objs.size f cd
  outer := outer
  stack := envOfC qual scope s.heap.objs.size f cd :: outer
  ex := []
  calm := true
  fn := fun _ => true
  pn := []
  xe := fun e s' => wpAny (model P w) (A.deeper (envOfC qual scope s.heap.objs.size f cd)) (leaving (envOfC qual scope s.heap.objs.size f cd) e) (fun _ s'' => CX outer H s E e s'') (fun e' s'' => CX outer H s E e' s'') s'

theorem cell_has {sc : Scope} {n : Nat} {x : Str} (h : sc.names.lookup x = some .cell) : ∃ c, (cellsFrom n sc.names []).lookup x = some c := by
  have q := PySem.W.cellsFrom_some sc.names n [] (.inl h)
  exact Option.isSome_iff_exists.mp q

theorem inv_start {CX : CXT} {P : Program} {w : World} {K : PySem.W.Frag} {mg : Str → Option Value} {base : Heap} {N ps : List Str} {qual : Str} {scope : Scope} {f : Addr} {cd : Value} {A : Around} {outer : List Env} {s s1 : Shared} {H : Hp} {E : XK} {us : List Value} {vs : List V}
    (S : FnScope N ps scope) (hd : A.handled = none) (e0 : Env0 P w K mg base A outer s H) (hl : vs.length = ps.length) (r : Vals vs us)
    (x : InCallC s s.heap.objs.size (bindL (envOfC qual scope s.heap.objs.size f cd).kindOf (ps.zip us) fun _ => none) (cellsFrom (s.heap.objs.size + 1) scope.names []) (bindC (envOfC qual scope s.heap.objs.size f cd).kindOf (ps.zip us) fun _ => none) s1) :
    Inv (cxOf CX P w K mg base N qual scope f cd A outer s H E) [] (start N vs) H s1 := by
  have hpl : ps.length ≤ N.length := by have := congrArg List.length S.pre; rw [List.length_take] at this; omega
  obtain ⟨h1, tk, rfl, hk⟩ := x.done
  have noA : ∀ b : Addr, b ∉ (cxOf CX P w K mg base N qual scope f cd A outer s H E).ex := fun b z => absurd (show b ∈ ([] : List Addr) from z) (by simp)
  refine ⟨⟨e0.mod, S.kind, rfl, rfl, Nat.le_refl _, fun y z c h1 h2 => ?_, fun y hy => ?_, fun y c _ h => ?_, fun _ => hd, Around.frames_deeper e0.frames, .inr ⟨rfl, rfl⟩, fun b z => absurd z (noA b), e0.bs, e0.bsz, fun b _ _ => noA b, fun b z => absurd z (noA b), e0.funs, e0.frf⟩,
    rfl, e0.bare, Un.kept hk, ⟨_, x.toInCall.ns, fun i y v h1 h2 h3 => ?_⟩, fun y c h => ⟨_, x.cell y c h⟩, e0.hok.fresh (Nat.le_refl _), fun y c h => ?_, fun p hp => absurd (show p ∈ ([] : List (Addr × Obj)) from hp) (by simp), e0.hok.kept hk, ?_⟩
  · exact name_of_addr x.apart (PySem.mem_of_lookup h1) (PySem.mem_of_lookup h2)
  · have hy : scope.names.lookup y = some .cell ∨ scope.names.lookup y = some .free := hy
    rcases hy with hy | hy
    · exact cell_has hy
    · exact absurd rfl (S.nofree _ (PySem.mem_of_lookup hy))
  · exact Nat.le_of_lt (x.above y c (PySem.mem_of_lookup h))
  · have hi : i < vs.length := by
      unfold start at h2
      by_cases hi : i < vs.length
      · exact hi
      · rw [List.getElem?_append_right (by simpa using hi)] at h2
        rw [List.getElem?_replicate] at h2
        split at h2 <;> cases h2
    have ha : vs[i]? = some v := by
      unfold start at h2
      rw [List.getElem?_append_left (by simpa using hi), List.getElem?_map] at h2
      cases e : vs[i]? with
      | none => rw [e] at h2; cases h2
      | some a => rw [e] at h2; cases h2; rfl
    obtain ⟨u, hu, rv⟩ := r.get ha
    have hp : ps[i]? = some y := by
      rw [← S.pre, List.getElem?_take_of_lt (by omega)]; exact h1
    have ndP : ps.Nodup := by rw [← S.pre]; exact S.nd.sublist (List.take_sublist _ _)
    refine ⟨u, rv, ?_⟩
    rcases S.par y (List.mem_of_getElem? hp) with k | k
    · exact .inl ⟨k, bindL_get ndP hp hu k⟩
    · obtain ⟨c, e⟩ := cell_has (n := s.heap.objs.size + 1) k
      refine .inr ⟨.inl k, c, e, ?_⟩
      have q := x.cell y c e
      rw [bindC_get ndP hp hu (by show scope.names.lookup y ≠ _; rw [k]; decide)] at q
      exact q
  · exact e0.hok.fresh (Nat.le_of_lt (x.above y c (PySem.mem_of_lookup h)))
  · unfold start
    show _ = N.length
    rw [List.length_append, List.length_map, List.length_replicate]
    omega

/-- THE RULE: a def (or a method) of the text, by its body. The body's reading t is chosen for each entry; it is run at the parameters' values -/
theorem fn_of {CX : CXT} {P : Program} {w : World} {K : PySem.W.Frag} {mg : Str → Option Value} {base : Heap} {k : Nat} {f : Addr} {name qual : Str} {params : Arguments} {body : List Stmt} {scope : Scope} {dV kV doc pm cdv ct oc : Value} {an od : Option Addr}
    {osl : Array (Option Value)} {N ps : List Str} {sp : Sp} (lk : K.lookup f = some ⟨oc, od, .func (PySem.W.fnOf name qual params body scope dV kV doc pm an cdv ct), osl⟩) (hcd : PySem.W.codeIn K cdv qual = true) (S : FnScope N ps scope)
    (len : ∀ vs H Q E, sp vs H Q E → vs.length = ps.length)
    (hbody : ∀ (A : Around) (outer : List Env) (s : Shared) (H : Hp) (vs : List V) (Q : VK) (E : XK), Room k (A.deeper (envOfC qual scope s.heap.objs.size f cdv)) → sp vs H Q E →
      ∃ t, PSs (cxOf CX P w K mg base N qual scope f cdv A outer s H E) body t ∧ t { nx := fun _ H' => Q .non H', rt := Q } (start N vs) H) :
    FnOk P w K mg base CX (k + 1) f (PySem.W.fnOf name qual params body scope dV kV doc pm an cdv ct) ps sp := by
  refine ⟨len, fun A outer s H args us vs Q E hr e0 hb r hsp => ?_⟩
  have hl := len _ _ _ _ hsp
  have KX : K.In s.heap := e0.mod.kin.keeps fun b o e => (e0.bs b o e).1
  have lim : s.heap.NoLimit := e0.mod.nolimit.keeps fun b o e => (e0.bs b o e).1
  have hkind : ∀ y ∈ ps.zip us, scope.names.lookup y.1 = some .local ∨ (scope.names.lookup y.1 = some .cell ∧ ((cellsFrom (s.heap.objs.size + 1) scope.names []).lookup y.1).isSome = true) := fun ⟨n, v⟩ hy => by
    rcases S.par n (List.of_mem_zip hy).1 with q | q
    · exact .inl q
    · exact .inr ⟨q, PySem.W.cellsFrom_some _ _ _ (.inl q)⟩
  refine codeAny_call_function hr.depth (KX _ _ lk) rfl S.co S.gen rfl (PySem.W.codeRec_of KX hcd) (hb _ _ _ _ ?_)
  refine wpAny_newFunctionEnv_cells S.kind hkind fun env he s1 x => ?_
  subst he
  refine ⟨lim.keeps x.toInCall.keep, codeAny_func ?_⟩
  obtain ⟨t, ht, hq⟩ := hbody A outer s H vs Q E (hr.deeper _) hsp
  have I : Inv (cxOf CX P w K mg base N qual scope f cdv A outer s H E) [] (start N vs) H s1 := inv_start S hr.hd e0 hl r x
  refine wpAny_mono (ht [] s1 (start N vs) H _ I hq) (fun fl s' hs => ?_) fun e s' hs => hs
  have fin : ∀ {σ' : St} {H' : Hp} {v : V} {u : Value}, Inv (cxOf CX P w K mg base N qual scope f cdv A outer s H E) [] σ' H' s' → RelV v u → Q v H' → CE outer P w H s Q u s' :=
    fun {σ' H' v u} J rv q => ⟨v, H', J.os, J.bare, J.base, J.hok, rv, q⟩
  cases fl with
  | ret u =>
    obtain ⟨v, σ', H', J, rv, q⟩ := hs
    exact fin J rv q
  | next =>
    obtain ⟨σ', H', J, q⟩ := hs
    exact fin (v := V.non) (u := Value.none) J rfl q
  | brk =>
    obtain ⟨_, _, _, q⟩ := hs
    exact False.elim q
  | cont =>
    obtain ⟨_, _, _, q⟩ := hs
    exact False.elim q
end L2

namespace L2
open PySem PySem.Spec PyProof.Rows
section
variable {X : Cx} {x : Str} {p pos : Pos} {e : Expr} {es : List Expr} {t : TA} {id T : String} {r : List V → Hp → VK → Prop}

def tCB (r : List V → Hp → VK → Prop) (t : TA) : TE := fun σ H Q => t σ H fun vs H1 => r vs H1 Q
/-- f(e, ..), f a built-in function -/
theorem pe_callB (hc : CallR X (.builtin id) r) (hg : Gl X x) (hm : X.mg x = none) (hv : bootBuiltins x = some (.builtin id)) (ha : PA X (e :: es) t) (hn : x ≠ "__name__" := by decide) (hdb : (x == ("__debug__" : Str)) = false := by decide)
    (he : starEach (e :: es) X.env = (false, eval e X.env) :: starEach es X.env := by rfl) (hpl : (backTo pos (starEach es X.env)).any (·.1) = false := by rfl) : PE X (.Call (.Name x p) (e :: es) [] pos) (tCB r t) := by
  intro pins s σ H Q I h
  refine wpAny_Call_Name_kw (ld_blt I hg hm hv ?_ hn hdb)
  exact PyProof.Rows.callWith_builtin1 (thn (ha pos pins s σ H _ I h) fun us s1 ⟨vs, H1, I1, r1, q1⟩ => hc pins s1 σ H1 vs us Q I1 r1 q1) he hpl
/-- T(e, ..), T a built-in type -/
theorem pe_callTy (hc : CallR X (.type T) r) (hg : Gl X x) (hm : X.mg x = none) (hv : bootBuiltins x = some (.type T)) (ha : PA X (e :: es) t) (hn : x ≠ "__name__" := by decide) (hdb : (x == ("__debug__" : Str)) = false := by decide)
    (he : starEach (e :: es) X.env = (false, eval e X.env) :: starEach es X.env := by rfl) (hpl : (backTo pos (starEach es X.env)).any (·.1) = false := by rfl) : PE X (.Call (.Name x p) (e :: es) [] pos) (tCB r t) := by
  intro pins s σ H Q I h
  refine wpAny_Call_Name_kw (ld_blt I hg hm hv ?_ hn hdb)
  exact PyProof.Rows.callWith_type1 (thn (ha pos pins s σ H _ I h) fun us s1 ⟨vs, H1, I1, r1, q1⟩ => hc pins s1 σ H1 vs us Q I1 r1 q1) he hpl
end
end L2

namespace HT
open PySem PyProof.Rows

section
open PySem.SeqAt
open PySem.AutoSeq1 (wpAny_loadPart')
open PySem.MeetsSeq PySem.MeetsSeq2 PySem.MeetsSeq3

end

section
variable {prog : Program} {w : World} {A : Around} {E : Value → Shared → Prop} {s : Shared}

/-! ### t[a:b], not the whole -/
/-- a slice's bound as a place among n (d where it is left out) -/
def sIx (n d : Nat) : Option Int → Nat
  | none => d
  | some v => if v < 0 then (v + (n : Int)).toNat else min v.toNat n
theorem sIx_nat (n d k : Nat) : sIx n d (some (k : Int)) = min k n := by
  show (if (k : Int) < 0 then ((k : Int) + (n : Int)).toNat else min (k : Int).toNat n) = min k n
  rw [if_neg (by omega), Int.toNat_natCast]
end
end HT

namespace L2
open PySem PySem.Spec PyProof.Rows

/-! ### the parts of a slice -/
abbrev TO := St → Hp → (Option Int → Hp → Prop) → Prop
/-- a slice's part (left out, or an int) -/
def PO (X : Cx) (e : Option Expr) (t : TO) : Prop :=
  ∀ (pins : List (Addr × Obj)) (s : Shared) (σ : St) (H : Hp) (Q : Option Int → Hp → Prop), Inv X pins σ H s → t σ H Q →
    wpAny (model X.prog X.w) X.A (evalPart e X.env) (fun u s' => ∃ o H', Inv X pins σ H' s' ∧ IsPart u o ∧ Q o H') X.xe s
def tPart (t : TE) : TO := fun σ H Q => t σ H fun x H1 => ∃ i, x = .int i ∧ Q (some i) H1

section
variable {X : Cx} {e : Expr} {te : TE} {lo hi : Option Expr} {tl th : TO} {pos p2 : Pos}

theorem po_some (h : PE X e te) : PO X (some e) (tPart te) := by
  intro pins s σ H Q I hw
  rw [evalPart_some]
  refine thn (h pins s σ H _ I hw) fun u s1 ⟨x, H1, I1, r1, q1⟩ => ?_
  obtain ⟨i, rfl, q⟩ := q1
  obtain ⟨t, rfl⟩ := r1
  exact ⟨some i, H1, I1, .int i t, q⟩

/-- what a slice of a value is, by values: the slice object stands at sl -/
def SlR (X : Cx) (r : V → Option Int → Option Int → Hp → VK → Prop) : Prop :=
  ∀ (pins : List (Addr × Obj)) (s : Shared) (σ : St) (H : Hp) (x : V) (v vl vu : Value) (lo hi : Option Int) (sl : Addr) (Q : VK), Inv X pins σ H s → RelV x v → s.heap.IsSliceOf sl vl vu .none → IsPart vl lo → IsPart vu hi → r x lo hi H Q →
    ∃ T id, typeLookup (.type T) "__getitem__" = pure (some (.builtin id)) ∧ s.TypeIs v T ∧ wpAny (model X.prog X.w) X.A (getItem v (.ref sl)) (EP X pins σ Q) X.xe s
theorem SlR.or {r r' : V → Option Int → Option Int → Hp → VK → Prop} (h : SlR X r) (h' : SlR X r') : SlR X (fun x lo hi H Q => r x lo hi H Q ∨ r' x lo hi H Q) := by
  intro pins s σ H x v vl vu lo hi sl Q I rx hs pl pu q
  rcases q with q | q
  · exact h pins s σ H x v vl vu lo hi sl Q I rx hs pl pu q
  · exact h' pins s σ H x v vl vu lo hi sl Q I rx hs pl pu q
def tSl (r : V → Option Int → Option Int → Hp → VK → Prop) (te : TE) (tl th : TO) : TE := fun σ H Q => te σ H fun x H1 => tl σ H1 fun l H2 => th σ H2 fun u H3 => r x l u H3 Q
/-- a[lo:hi], any a -/
theorem pe_slice {r : V → Option Int → Option Int → Hp → VK → Prop} (hr : SlR X r) (he : PE X e te) (hl : PO X lo tl) (hu : PO X hi th) : PE X (.Subscript e (.Slice lo hi none p2) pos) (tSl r te tl th) := by
  intro pins s σ H Q I h
  refine Subscript_ (thn (he pins s σ H _ I h) fun v s1 ⟨x, H1, I1, r1, q1⟩ => ?_)
  refine wpAny_Slice (thn (hl pins s1 σ H1 _ I1 q1) fun vl s2 ⟨l, H2, I2, pl, q2⟩ => thn (hu pins s2 σ H2 _ I2 q2) fun vu s3 ⟨u, H3, I3, pu, q3⟩ => ?_)
  rw [evalPart_none]
  refine wpAny_pure ?_
  have I4 : Inv X pins σ H3 { s3 with heap := s3.heap.push { cls := .type "slice", data := .fields #[vl, vu, .none] } } := I3.kept (t' := s3.toks) fun b ob q => Heap.get?_push_of_some _ q
  obtain ⟨T, id, hT, ht, hg⟩ := hr pins { s3 with heap := s3.heap.push { cls := .type "slice", data := .fields #[vl, vu, .none] } } σ H3 x v vl vu l u s3.heap.objs.size Q I4 r1 (Heap.IsSliceOf.new ..) pl pu q3
  show wpAny (model X.prog X.w) X.A (subscriptTail e (.Slice lo hi none p2) v (.ref s3.heap.objs.size)) (EP X pins σ Q) X.xe { s3 with heap := s3.heap.push { cls := .type "slice", data := .fields #[vl, vu, .none] } }
  exact tail_any (ops := [.ref s3.heap.objs.size, v]) ht hT hg (by with_unfolding_all rfl)

/-- the items of xs[lo:hi] -/
def cutV (xs : List V) (lo hi : Option Int) : List V := (xs.drop (HT.sIx xs.length 0 lo)).take (HT.sIx xs.length xs.length hi - HT.sIx xs.length 0 lo)
theorem cutV_length (xs : List V) (lo hi : Option Int) : (cutV xs lo hi).length ≤ xs.length := by
  unfold cutV
  rw [List.length_take, List.length_drop]
  omega
/-! ### t < u, t + u -/
end
end L2

namespace L2
open PySem PySem.Spec PyProof.Rows

/-! ### places -/
/-- the place that an index of any sign means -/
def ixN (n : Nat) (i : Int) : Option Nat := if 0 ≤ i then (if i < n then some i.toNat else none) else if -(n : Int) ≤ i then some (i + n).toNat else none
def atI {α : Type} (xs : List α) (i : Int) : Option α := (ixN xs.length i).bind fun j => xs[j]?
theorem ixN_seq {n : Nat} {i : Int} {j : Nat} (h : ixN n i = some j) : seqIndex? i n = some j ∧ j < n ∧ -(n : Int) ≤ i ∧ i < n := by
  unfold ixN at h
  by_cases h0 : 0 ≤ i
  · rw [if_pos h0] at h
    by_cases h1 : i < n
    · rw [if_pos h1] at h
      have e : i.toNat = j := Option.some.inj h
      exact ⟨by rw [seqIndex_of h0 h1, e], by omega, by omega, h1⟩
    · rw [if_neg h1] at h; cases h
  · rw [if_neg h0] at h
    by_cases h1 : -(n : Int) ≤ i
    · rw [if_pos h1] at h
      have e : (i + n).toNat = j := Option.some.inj h
      exact ⟨by rw [seqIndex_neg (by omega) h1, e], by omega, h1, by omega⟩
    · rw [if_neg h1] at h; cases h
theorem atI_get {α : Type} {xs : List α} {i : Int} {v : α} (h : atI xs i = some v) : ∃ j, seqIndex? i xs.length = some j ∧ xs[j]? = some v ∧ j < xs.length ∧ -(xs.length : Int) ≤ i ∧ i < xs.length := by
  unfold atI at h
  cases e : ixN xs.length i with
  | none => rw [e] at h; cases h
  | some j =>
    rw [e] at h
    obtain ⟨h1, h2, h3, h4⟩ := ixN_seq e
    exact ⟨j, h1, h, h2, h3, h4⟩
theorem atI_nat {α : Type} {xs : List α} {j : Nat} {v : α} (h : xs[j]? = some v) : atI xs (j : Int) = some v := by
  have hj : j < xs.length := (List.getElem?_eq_some_iff.mp h).1
  have e : ixN xs.length (j : Int) = some j := by
    unfold ixN
    rw [if_pos (by omega), if_pos (by omega)]; simp
  unfold atI; rw [e]; exact h
/-! ### what may be subscripted -/
/-- what stands as an index of a plain subscript -/
def PlainIx (b : Expr) : Prop := ∀ o i, subscripted b false o i = operate [o, i] (getItem o i)
/-- a subscript by values -/
def IxR (X : Cx) (r : R2) : Prop :=
  ∀ (value slice : Expr) (pins : List (Addr × Obj)) (s : Shared) (σ : St) (H : Hp) (x y : V) (v u : Value) (Q : VK), Inv X pins σ H s → RelV x v → RelV y u → r x y H Q →
    subscripted slice false v u = operate [v, u] (getItem v u) → wpAny (model X.prog X.w) X.A (subscriptTail value slice v u) (EP X pins σ Q) X.xe s
/-- a call of a builtin's method by values: the receiver, the arguments -/
def MtR (X : Cx) (id : String) (r : V → List V → Hp → VK → Prop) : Prop :=
  ∀ (pins : List (Addr × Obj)) (s : Shared) (σ : St) (H : Hp) (x : V) (xs : List V) (v : Value) (us : List Value) (Q : VK), Inv X pins σ H s → RelV x v → Vals xs us → r x xs H Q →
    wpAny (model X.prog X.w) X.A (call (.builtin id) (v :: us)) (EP X pins σ Q) X.xe s
section
variable {X : Cx} {a b : Expr} {ta tb : TE} {pos : Pos}
theorem IxR.or {r r' : R2} (h : IxR X r) (h' : IxR X r') : IxR X (fun x y H Q => r x y H Q ∨ r' x y H Q) := by
  intro value slice pins s σ H x y v u Q I rx ry q hs
  rcases q with q | q
  · exact h value slice pins s σ H x y v u Q I rx ry q hs
  · exact h' value slice pins s σ H x y v u Q I rx ry q hs
theorem MtR.or {id : String} {r r' : V → List V → Hp → VK → Prop} (h : MtR X id r) (h' : MtR X id r') : MtR X id (fun x xs H Q => r x xs H Q ∨ r' x xs H Q) := by
  intro pins s σ H x xs v us Q I rx rs q
  rcases q with q | q
  · exact h pins s σ H x xs v us Q I rx rs q
  · exact h' pins s σ H x xs v us Q I rx rs q
/-- a[b] -/
theorem pe_ix {r : R2} (hr : IxR X r) (ha : PE X a ta) (hb : PE X b tb) (hs : PlainIx b) : PE X (.Subscript a b pos) (tOp r ta tb) := by
  intro pins s σ H Q I h
  exact Subscript_ (binT ha hb I h fun v u s2 x y H2 I2 rx ry q => hr a b pins s2 σ H2 x y v u Q I2 rx ry q (hs _ _))

def rIxL (K : PySem.W.Frag) : R2 := fun x y H Q => ∃ p xs i v, x = .ref p ∧ y = .int i ∧ SqL K H p xs ∧ atI xs i = some v ∧ Q v H
def rIxT (K : PySem.W.Frag) : R2 := fun x y H Q => ∃ p xs i v, x = .ref p ∧ y = .int i ∧ SqT K H p xs ∧ atI xs i = some v ∧ Q v H
def rIxS : R2 := fun x y H Q => ∃ z i c, x = .str z ∧ y = .int i ∧ z.length ≤ sizeLine ∧ atI z.cps.toList i = some c ∧ Q (.str ⟨#[c]⟩) H
theorem ix_list : IxR X (rIxL X.K) := by
  intro value slice pins s σ H x y v u Q I rx ry h hs
  obtain ⟨p, xs, i, z, rfl, rfl, hq, he, q⟩ := h
  cases rx
  obtain ⟨t, rfl⟩ := ry
  obtain ⟨its, r, pl, hz⟩ := I.list hq
  obtain ⟨j, h1, h2, h3, h4, h5⟩ := atI_get he
  obtain ⟨w, ew, rw'⟩ := r.get h2
  have hl := r.length
  have hn := line63
  have fin : EP X pins σ Q w s := ⟨z, H, I, rw', q⟩
  by_cases h0 : 0 ≤ i
  · have hj : i.toNat = j := by
      rw [seqIndex_of h0 h5] at h1
      exact Option.some.inj h1
    exact item_listR pl.isList h0 (by omega) (by rw [hj]; simpa using ew) fin hs
  · have hj : (i + (its.toArray.size : Int)).toNat = j := by
      rw [seqIndex_neg (by omega) h4] at h1
      rw [List.size_toArray, ← hl]
      exact Option.some.inj h1
    exact subscriptTail_builtinR (x := w) pl.isList.typeIs slot_list_getitem.lookup
      (wpAny_getItem_list_neg (Q := fun r s' => r = w ∧ EP X pins σ Q r s') pl.isList (by omega) (by rw [List.size_toArray] <;> omega) (by omega) (by rw [hj]; simpa using ew) ⟨rfl, fin⟩) hs
theorem ix_tup : IxR X (rIxT X.K) := by
  intro value slice pins s σ H x y v u Q I rx ry h hs
  obtain ⟨p, xs, i, z, rfl, rfl, hq, he, q⟩ := h
  cases rx
  obtain ⟨t, rfl⟩ := ry
  obtain ⟨its, r, pl, hz⟩ := I.tuple hq
  obtain ⟨j, h1, h2, h3, h4, h5⟩ := atI_get he
  obtain ⟨w, ew, rw'⟩ := r.get h2
  have hl := r.length
  have hn := line63
  have fin : EP X pins σ Q w s := ⟨z, H, I, rw', q⟩
  exact subscriptTail_builtinR (x := w) pl.typeIs slot_tuple_getitem.lookup
    (getItem_tuple (j := j) (Q := fun r s' => r = w ∧ EP X pins σ Q r s') pl (by omega) (by omega) (by rw [List.size_toArray, ← hl]; exact h1) (by simpa using ew) ⟨rfl, fin⟩) hs
theorem ix_str : IxR X rIxS := by
  intro value slice pins s σ H x y v u Q I rx ry h hs
  obtain ⟨z, i, c, rfl, rfl, hz, he, q⟩ := h
  obtain ⟨t, rfl⟩ := rx
  obtain ⟨t', rfl⟩ := ry
  obtain ⟨j, h1, h2, h3, h4, h5⟩ := atI_get he
  have hl : z.cps.toList.length = z.length := by simp [Str.length]
  rw [hl] at h1 h4 h5
  have hn := line63
  exact tail_any (typeIs_str s z t) slot_str_getitem.lookup (getItem_str (c := c) (by
    have e1 : decide (i < -(2 ^ 63 : Int)) = false := decide_eq_false (by omega)
    have e2 : decide (i ≥ 2 ^ 63) = false := decide_eq_false (by omega)
    rw [e1, e2, Bool.or_false]) (by rw [h1]; simpa using h2) ⟨.str ⟨#[c]⟩, H, I.tok _, ⟨_, rfl⟩, q⟩) hs
/-- list, tuple or str -/
def rIx (K : PySem.W.Frag) : R2 := fun x y H Q => rIxL K x y H Q ∨ rIxT K x y H Q ∨ rIxS x y H Q
theorem ix_seq : IxR X (rIx X.K) := ix_list.or (ix_tup.or ix_str)

/-! ### xs[i] = v, any sign -/
/-- the list's object behind a store -/
theorem mapSeq_set (its : List Value) (n j : Nat) (u : Value) : Obj.mapSeq (·.setIfInBounds j u) { cls := .type "list", data := .seq its.toArray n } = { cls := .type "list", data := .seq (its.set j u).toArray n } := by
  simp [Obj.mapSeq]
theorem Inv.lst {pins : List (Addr × Obj)} {σ : St} {H : Hp} {s : Shared} {p : Addr} {xs : List V} (I : Inv X pins σ H s) (h : H p = some (.lst xs)) :
    ∃ (its : List Value) (n : Nat), Vals xs its ∧ s.heap.get? p = some { cls := .type "list", data := .seq its.toArray n } ∧ xs.length ≤ sizeLine := by
  obtain ⟨z, its, n, r, e⟩ := I.hok p _ h
  exact ⟨its, n, r, e, z⟩
/-- the list at p is written by an update of its object -/
theorem Inv.lstUpd {pins : List (Addr × Obj)} {σ : St} {H : Hp} {s : Shared} {p : Addr} {xs ys : List V} {its its' : List Value} {n n' : Nat} {f : Obj → Obj} (I : Inv X pins σ H s) (h : H p = some (.lst xs))
    (ho : s.heap.get? p = some { cls := .type "list", data := .seq its.toArray n }) (hf : f { cls := .type "list", data := .seq its.toArray n } = { cls := .type "list", data := .seq its'.toArray n' }) (r : Vals ys its') (hz : ys.length ≤ sizeLine) (t : Nat) :
    Inv X pins σ (upd H p (.lst ys)) { s with heap := s.heap.update p f, toks := t } := by
  have e : (s.heap.update p f).get? p = some { cls := .type "list", data := .seq its'.toArray n' } := by
    rw [Heap.get?_update_self f ho (by rw [hf] <;> rfl), hf]
  refine I.write (x := p) (e := p) (by rw [h]; trivial) (.inl rfl) (fun b u hb q => (Heap.get?_update_other _ _ (Ne.symm hb)).trans q) ⟨_, e⟩ ?_
  exact ⟨hz, its', n', r, e⟩
def rSetL : V → V → V → Hp → (Hp → Prop) → Prop := fun o i v H Q => ∃ p xs k j, o = .ref p ∧ i = .int k ∧ H p = some (.lst xs) ∧ ixN xs.length k = some j ∧ Q (upd H p (.lst (xs.set j v)))
theorem set_list : PSet X rSetL := by
  intro pins s σ H o i v ov iv u Q I ro ri rv h
  obtain ⟨p, xs, k, j, rfl, rfl, hp, hj, q⟩ := h
  cases ro
  obtain ⟨t, rfl⟩ := ri
  obtain ⟨its, n, r, ho, hz⟩ := I.lst hp
  obtain ⟨h1, h2, h3, h4⟩ := ixN_seq hj
  have hl := r.length
  have hn := line63
  have I' : Inv X pins σ (upd H p (.lst (xs.set j v))) { s with heap := s.heap.update p (Obj.mapSeq (·.setIfInBounds j u)) } :=
    I.lstUpd hp ho (mapSeq_set its n j u) (r.set rv j) (by rw [List.length_set]; exact hz) s.toks
  by_cases h0 : 0 ≤ k
  · have hk : k.toNat = j := by
      rw [seqIndex_of h0 h4] at h1
      exact Option.some.inj h1
    exact PySem.W.ki_setAt ho h0 (by omega) (by rw [List.size_toArray, ← hl]; exact h4) (by rw [hk]; exact ⟨_, I', q⟩)
  · have hk : (k + (its.toArray.size : Int)).toNat = j := by
      rw [seqIndex_neg (by omega) h3] at h1
      rw [List.size_toArray, ← hl]
      exact Option.some.inj h1
    exact PySem.W.ki_setBack ho (by omega) (by rw [List.size_toArray, ← hl]; exact h3) (by omega) (by rw [hk]; exact ⟨_, I', q⟩)

/-! ### slices -/
theorem slice_bounds (lo hi : Option Int) (n : Nat) : (sliceBounds lo hi none n).1 = ((HT.sIx n 0 lo : Nat) : Int) ∧ (sliceBounds lo hi none n).2.1 = ((HT.sIx n n hi : Nat) : Int) ∧ (sliceBounds lo hi none n).2.2 = 1 := by
  refine ⟨?_, ?_, rfl⟩
  · cases lo with
    | none => simp [sliceBounds, HT.sIx]
    | some i =>
      simp only [sliceBounds, HT.sIx, Option.getD_none, show (1 : Int) > 0 by decide, if_true]
      by_cases h : i < 0
      · simp only [h, if_true] <;> omega
      · simp only [h, if_false] <;> omega
  · cases hi with
    | none => simp [sliceBounds, HT.sIx]
    | some i =>
      simp only [sliceBounds, HT.sIx, Option.getD_none, show (1 : Int) > 0 by decide, if_true]
      by_cases h : i < 0
      · simp only [h, if_true] <;> omega
      · simp only [h, if_false] <;> omega
theorem slicePick_cut (its : List Value) (lo hi : Option Int) : slicePick its.toArray lo hi none = ((its.drop (HT.sIx its.length 0 lo)).take (HT.sIx its.length its.length hi - HT.sIx its.length 0 lo)).toArray := by
  obtain ⟨h1, h2, h3⟩ := slice_bounds lo hi its.toArray.size
  unfold slicePick
  rw [h1, h2, h3]
  simp only [sliceRange_one, pick_run, List.size_toArray] <;> rfl
/-- xs[lo:hi] of a list: a new list -/
def rSlL (K : PySem.W.Frag) : V → Option Int → Option Int → Hp → VK → Prop := fun x lo hi H Q => ∃ a xs, x = .ref a ∧ SqL K H a xs ∧ ∀ p, H p = none → Q (.ref p) (upd H p (.lst (cutV xs lo hi)))
theorem sl_list : SlR X (rSlL X.K) := by
  intro pins s σ H x v vl vu lo hi sl Q I rx hs pl pu h
  obtain ⟨a, xs, rfl, hx, q⟩ := h
  cases rx
  obtain ⟨its, r, ht, hz⟩ := I.list hx
  have hlen := r.length
  refine ⟨"list", _, slot_list_getitem.lookup, ht.isList.typeIs, ?_⟩
  refine wpAny_getItem_list_slice ht.isList hs pl pu .none (by simp) ?_ (by rw [List.size_toArray] <;> omega)
  rw [slicePick_cut, ← hlen]
  refine ⟨.ref s.heap.objs.size, _, I.laid (t' := s.toks) (o := .lst (cutV xs lo hi)) (fun b ob q => Heap.get?_push_of_some _ q) (Nat.le_refl _) ?_, rfl, q _ (I.hok.fresh (Nat.le_refl _))⟩
  exact ⟨Nat.le_trans (cutV_length xs lo hi) hz, _, 0, (r.drop (HT.sIx xs.length 0 lo)).take (HT.sIx xs.length xs.length hi - HT.sIx xs.length 0 lo), Heap.get?_push_size _ rfl⟩

/-! ### in, not in: flat items -/
def flatV : V → Bool
  | .non => true
  | .bl _ => true
  | .int _ => true
  | .str _ => true
  | _ => false
/-- == of flat values -/
def eqV : V → V → Bool
  | .non, .non => true
  | .bl a, .bl b => a == b
  | .bl a, .int b => (if a then 1 else 0) == b
  | .int a, .bl b => a == (if b then 1 else 0)
  | .int a, .int b => a == b
  | .str a, .str b => a == b
  | _, _ => false
theorem eqAt_V {A : Around} {s : Shared} {y x : V} {u v : Value} (ry : RelV y u) (rx : RelV x v) (fy : flatV y = true) (fx : flatV x = true) : SeqAt.EqAt A s u v (eqV y x) := by
  cases y with
  | non =>
    cases ry
    cases x with
    | non => cases rx; exact SeqAt.EqAt.same _
    | bl b => cases rx; exact SeqAt.EqAt.none_bool b
    | int b => obtain ⟨t, rfl⟩ := rx; exact SeqAt.EqAt.none_int b t
    | str b => obtain ⟨t, rfl⟩ := rx; exact SeqAt.EqAt.none_str b t
    | _ => exact absurd (show false = true from fx) Bool.false_ne_true
  | bl a =>
    cases ry
    cases x with
    | non => cases rx; exact SeqAt.EqAt.bool_none a
    | bl b => cases rx; exact SeqAt.EqAt.bool_bool a b
    | int b => obtain ⟨t, rfl⟩ := rx; exact SeqAt.EqAt.bool_int a b t
    | str b => obtain ⟨t, rfl⟩ := rx; exact SeqAt.EqAt.bool_str a b t
    | _ => exact absurd (show false = true from fx) Bool.false_ne_true
  | int a =>
    obtain ⟨t', rfl⟩ := ry
    cases x with
    | non => cases rx; exact SeqAt.EqAt.int_none a t'
    | bl b => cases rx; exact SeqAt.EqAt.int_bool a t' b
    | int b => obtain ⟨t, rfl⟩ := rx; exact SeqAt.EqAt.int_int a t' b t
    | str b => obtain ⟨t, rfl⟩ := rx; exact SeqAt.EqAt.int_str a t' b t
    | _ => exact absurd (show false = true from fx) Bool.false_ne_true
  | str a =>
    obtain ⟨t', rfl⟩ := ry
    cases x with
    | non => cases rx; exact SeqAt.EqAt.str_none a t'
    | bl b => cases rx; exact SeqAt.EqAt.str_bool a t' b
    | int b => obtain ⟨t, rfl⟩ := rx; exact SeqAt.EqAt.str_int a t' b t
    | str b => obtain ⟨t, rfl⟩ := rx; exact SeqAt.EqAt.str_str a t' b t
    | _ => exact absurd (show false = true from fx) Bool.false_ne_true
  | _ => exact absurd (show false = true from fy) Bool.false_ne_true
/-- the items' answers, read off the values (a value's own answer does not lean on its token) -/
def eqU (x : V) (u : Value) : Bool := match u with
  | .none => eqV .non x
  | .bool b => eqV (.bl b) x
  | .int i _ => eqV (.int i) x
  | .str z _ => eqV (.str z) x
  | _ => false
theorem eqU_of {x y : V} {u : Value} (r : RelV y u) (f : flatV y = true) : eqU x u = eqV y x := by
  cases y with
  | non => cases r; rfl
  | bl b => cases r; rfl
  | int i => obtain ⟨t, rfl⟩ := r; rfl
  | str z => obtain ⟨t, rfl⟩ := r; rfl
  | _ => exact absurd (show false = true from f) Bool.false_ne_true
theorem mem_eqAt {A : Around} {s : Shared} {x : V} {v : Value} (rx : RelV x v) (fx : flatV x = true) : ∀ {xs : List V} {us : List Value}, Vals xs us → xs.all flatV = true → ∀ u ∈ us, SeqAt.EqAt A s u v (eqU x u)
  | _, _, .nil, _ => fun u hu => by cases hu
  | y :: xs, u :: us, .cons r t, f => fun u' hu => by
    rw [List.all_cons, Bool.and_eq_true] at f
    rcases List.mem_cons.mp hu with rfl | hu
    · rw [eqU_of r f.1]; exact eqAt_V r rx f.1 fx
    · exact mem_eqAt rx fx t f.2 u' hu
/-! ### len, list(x), tuple(x) of any list or tuple that is read -/
theorem call_len_seq : CallR X (.builtin "len") (fun xs H Q => ∃ p ys, xs = [.ref p] ∧ (SqL X.K H p ys ∨ SqT X.K H p ys) ∧ Q (.int ys.length) H) := by
  intro pins s σ H xs us Q I r h
  obtain ⟨p, ys, rfl, hq, q⟩ := h
  obtain ⟨u, rfl, rx⟩ := vals1 r
  cases rx
  have hn := line63
  rcases hq with hq | hq
  · obtain ⟨its, r', pl, hz⟩ := I.list hq
    have hlen := r'.length
    exact Calls.call_len_list pl.isList (by simp only [List.size_toArray] <;> omega) ⟨.int ys.length, H, I.tok _, ⟨s.toks + 1, by rw [List.size_toArray, hlen]⟩, q⟩
  · obtain ⟨its, r', pl, hz⟩ := I.tuple hq
    have hlen := r'.length
    exact len_tuple pl (by simp only [List.size_toArray] <;> omega) ⟨.int ys.length, H, I.tok _, ⟨s.toks + 1, by rw [List.size_toArray, hlen]⟩, q⟩
theorem CallR.or {f : Value} {r r' : List V → Hp → VK → Prop} (h : CallR X f r) (h' : CallR X f r') : CallR X f (fun xs H Q => r xs H Q ∨ r' xs H Q) := by
  intro pins s σ H xs us Q I rs q
  rcases q with q | q
  · exact h pins s σ H xs us Q I rs q
  · exact h' pins s σ H xs us Q I rs q
theorem call_list_of : CallR X (.type "list") (fun xs H Q => ∃ p ys, xs = [.ref p] ∧ (SqL X.K H p ys ∨ SqT X.K H p ys) ∧ ∀ l, H l = none → Q (.ref l) (upd H l (.lst ys))) := by
  intro pins s σ H xs us Q I r h
  obtain ⟨p, ys, rfl, hq, q⟩ := h
  obtain ⟨u, rfl, rx⟩ := vals1 r
  cases rx
  have fin : ∀ (its : List Value), Vals ys its → ys.length ≤ sizeLine → ∀ (h' : Heap) (c' : Nat), (∀ b o', s.heap.get? b = some o' → h'.get? b = some o') →
      h'.get? s.heap.objs.size = some { cls := .type "list", dict := none, data := .seq its.toArray c', slots := #[] } → EP X pins σ Q (.ref s.heap.objs.size) { s with heap := h' } := fun its r' hz h' c' kp e =>
    ⟨.ref s.heap.objs.size, _, I.laid (t' := s.toks) kp (Nat.le_refl _) (show ObjOk X.prog X.w _ h' _ (.lst ys) from ⟨hz, its, c', r', e⟩), rfl, q _ (I.hok.fresh (Nat.le_refl _))⟩
  rcases hq with hq | hq
  · obtain ⟨its, r', pl, hz⟩ := I.list hq
    have hlen := r'.length
    obtain ⟨o, ho, hc, n, hd⟩ := pl.isList
    exact call_list_seq p (.inl rfl) ho hc hd (fun h' c' kp e => fin its r' hz h' c' kp e) (by simp only [List.size_toArray] <;> omega)
  · obtain ⟨its, r', pl, hz⟩ := I.tuple hq
    have hlen := r'.length
    obtain ⟨o, ho, hc, n, hd⟩ := pl
    exact call_list_seq p (.inr rfl) ho hc hd (fun h' c' kp e => fin its r' hz h' c' kp e) (by simp only [List.size_toArray] <;> omega)
theorem call_tuple_of : CallR X (.type "tuple") (fun xs H Q => ∃ p ys, xs = [.ref p] ∧ ((SqL X.K H p ys ∧ ∀ l, H l = none → Q (.ref l) (upd H l (.tup ys))) ∨ (SqT X.K H p ys ∧ Q (.ref p) H))) := by
  intro pins s σ H xs us Q I r h
  obtain ⟨p, ys, rfl, h⟩ := h
  obtain ⟨u, rfl, rx⟩ := vals1 r
  cases rx
  rcases h with ⟨hq, q⟩ | ⟨hq, q⟩
  · obtain ⟨its, r', pl, hz⟩ := I.list hq
    have hlen := r'.length
    refine call_tuple_list pl.isList (fun h' kp => ?_) (by simp only [List.size_toArray] <;> omega)
    have I1 : Inv X pins σ H { s with heap := h' } := I.kept (t' := s.toks) kp
    have I2 : Inv X pins σ (upd H h'.objs.size (.tup ys)) { s with heap := h'.push { cls := .type "tuple", data := .seq its.toArray } } :=
      I1.laid (t' := s.toks) (fun b o e => Heap.get?_push_of_some _ e) (Nat.le_refl _) (show ObjOk X.prog X.w _ _ _ (.tup ys) from ⟨hz, its, r', TupD.new _ _⟩)
    exact ⟨.ref h'.objs.size, _, I2, rfl, q _ (I1.hok.fresh (Nat.le_refl _))⟩
  · obtain ⟨its, r', pl, hz⟩ := I.tuple hq
    exact call_tuple_same pl ⟨.ref p, H, I, rfl, q⟩

/-! ### the call of a builtin's method: o.m(..) -/
/-- the value is of that builtin type -/
def tyV (K : PySem.W.Frag) (T : String) (x : V) (H : Hp) : Prop := match x with
  | .str _ => T = "str"
  | .int _ => T = "int"
  | .ref p => (T = "list" ∧ ∃ xs, SqL K H p xs) ∨ (T = "tuple" ∧ ∃ o, K.lookup p = some o ∧ o.cls = .type "tuple" ∧ o.dict = none) ∨
      (T = "dict" ∧ ((∃ kvs, H p = some (.dK kvs)) ∨ ∃ kvs, H p = some (.dT kvs))) ∨ (T = "set" ∧ ∃ S n, H p = some (.set S n))
  | _ => False
theorem tyV_is {pins : List (Addr × Obj)} {σ : St} {H : Hp} {s : Shared} {T : String} {x : V} {v : Value} (I : Inv X pins σ H s) (r : RelV x v) (ty : tyV X.K T x H) :
    s.TypeIs v T ∧ ∀ a, v = .ref a → ∃ ob, s.heap.get? a = some ob ∧ ob.dict = none := by
  cases x with
  | str z =>
    obtain ⟨t, rfl⟩ := r
    cases (show T = "str" from ty)
    exact ⟨typeIs_str s z t, fun _ e => nomatch e⟩
  | int i =>
    obtain ⟨t, rfl⟩ := r
    cases (show T = "int" from ty)
    exact ⟨typeIs_int s i t, fun _ e => nomatch e⟩
  | ref p =>
    cases r
    rcases ty with ⟨rfl, xs, hq⟩ | ⟨rfl, o, hk, hc, hd⟩ | ⟨rfl, hk⟩ | ⟨rfl, S, n, hk⟩
    · obtain ⟨its, _, pl, _⟩ := I.list hq
      refine ⟨pl.isList.typeIs, fun a e => ?_⟩
      cases e
      obtain ⟨o, n, e, c, hd, _⟩ := pl
      exact ⟨o, e, hd⟩
    · refine ⟨⟨o, I.kIn p o hk, hc⟩, fun a e => ?_⟩
      cases e
      exact ⟨o, I.kIn _ o hk, hd⟩
    · have z : ∃ o, s.heap.get? p = some o ∧ o.ExactDict := by
        rcases hk with ⟨kvs, hk⟩ | ⟨kvs, hk⟩
        · obtain ⟨_, _, _, _, o, _, _, e, ex, _⟩ := I.hok p _ hk
          exact ⟨o, e, ex⟩
        · obtain ⟨_, _, _, _, o, _, _, e, ex, _⟩ := I.hok p _ hk
          exact ⟨o, e, ex⟩
      obtain ⟨o, e, ex⟩ := z
      refine ⟨⟨o, e, ex.1⟩, fun a e2 => ?_⟩
      cases e2
      exact ⟨o, e, ex.2.1⟩
    · obtain ⟨o, _, _, _, e, ex, _⟩ := I.hok p _ hk
      refine ⟨⟨o, e, ex.1⟩, fun a e2 => ?_⟩
      cases e2
      exact ⟨o, e, ex.2.1⟩
  | _ => exact False.elim ty
def tBM (K : PySem.W.Frag) (T : String) (r : V → List V → Hp → VK → Prop) (to : TE) (t : TA) : TE := fun σ H Q => to σ H fun x H1 => tyV K T x H1 ∧ t σ H1 fun xs H2 => r x xs H2 Q
variable {o e : Expr} {es : List Expr} {to : TE} {t : TA} {name : Str} {apos cpos : Pos} {T id : String} {r : V → List V → Hp → VK → Prop}
theorem pe_bm (pa : PlainAttrs T) (slot : Slot T name id) (hty : typeOf (.builtin id) = pure (.type "method_descriptor")) (hm : MtR X id r) (ho : PE X o to) (ha : PA X (e :: es) t)
    (hbase : attributeBase o name X.env (eval o X.env) = eval o X.env := by rfl)
    (hfew : ((backTo cpos (starEach (e :: es) X.env)).all (fun x => !x.1) && (backToKw cpos (keywordEach [] X.env)).all (fun x => x.1.isSome)
      && decide ((e :: es).length + ([] : List Keyword).length + (if ([] : List Keyword).isEmpty then 0 else 1) < 30)) = true := by rfl)
    (hline : (apos.endLine == cpos.line) = true := by rfl) (hs : starEach (e :: es) X.env = (false, eval e X.env) :: starEach es X.env := by rfl) (hplain : (backTo cpos (starEach es X.env)).any (·.1) = false := by rfl) :
    PE X (.Call (.Attribute o name apos) (e :: es) [] cpos) (tBM X.K T r to t) := by
  intro pins s σ H Q I h
  refine wpAny_Call_method_late hbase hfew hline rfl (thn (ho pins s σ H _ I h) fun v s1 ⟨x, H1, I1, r1, ty, q1⟩ => ?_)
  obtain ⟨h1, h2⟩ := tyV_is I1 r1 ty
  refine ⟨T, id, pa, slot, hty, h1, h2, ?_⟩
  have hA := ha cpos pins s1 σ H1 _ I1 q1
  rw [hs] at hA ⊢
  refine Calls.callWith_builtin (by show (false || (backTo cpos (starEach es X.env)).any (·.1)) = false; rw [hplain] <;> rfl) (Calls.evalArgs_plain ?_)
  exact thn hA fun us s2 ⟨vs, H2, I2, r2, q2⟩ => hm pins s2 σ H2 x vs v us Q I2 r1 r2 q2
/- xs.append(e), list.index on a module's tuple .. are MtR facts of 06m -/
end
end L2

namespace L2
open PySem PySem.Spec PyProof.Rows

def MtM (X : Cx) (id : String) (r : V → List V → Hp → VK → Prop) : Prop :=
  ∀ (pins : List (Addr × Obj)) (s : Shared) (σ : St) (H : Hp) (x : V) (xs : List V) (v : Value) (us : List Value) (Q : VK), Inv X pins σ H s → RelV x v → Vals xs us → r x xs H Q →
    wpAny (model X.prog X.w) X.A (call (.builtin id) (v :: us)) (EP X pins σ Q) X.xe s

/-! ### lists of values -/
theorem Vals.one : ∀ {x : V} {us : List Value}, Vals [x] us → ∃ u, us = [u] ∧ RelV x u
  | _, _, .cons r .nil => ⟨_, rfl, r⟩
theorem Vals.two : ∀ {x y : V} {us : List Value}, Vals [x, y] us → ∃ u v, us = [u, v] ∧ RelV x u ∧ RelV y v
  | _, _, _, .cons r (.cons q .nil) => ⟨_, _, rfl, r, q⟩
theorem Vals.zero : ∀ {us : List Value}, Vals [] us → us = []
  | _, .nil => rfl
theorem Vals.reverse {xs : List V} {us : List Value} (h : Vals xs us) : Vals xs.reverse us.reverse := by
  induction h with
  | nil => exact .nil
  | cons r t ih => rw [List.reverse_cons, List.reverse_cons]; exact Vals.append ih (.cons r .nil)
theorem Vals.rep {xs : List V} {us : List Value} (h : Vals xs us) : ∀ k : Nat, Vals (List.replicate k xs).flatten (List.replicate k us).flatten
  | 0 => .nil
  | k + 1 => by
    rw [List.replicate_succ, List.replicate_succ, List.flatten_cons, List.flatten_cons]
    exact Vals.append h (Vals.rep h k)
theorem foldl_rep (its : List Value) : ∀ (k : Nat) (acc : List Value),
    List.foldl (fun x1 x2 => x1 ++ x2) acc.toArray (List.replicate k its.toArray) = (acc ++ (List.replicate k its).flatten).toArray
  | 0, acc => by simp
  | k + 1, acc => by
    have e : acc.toArray ++ its.toArray = (acc ++ its).toArray := by simp
    have e2 : (acc ++ its) ++ (List.replicate k its).flatten = acc ++ (List.replicate (k + 1) its).flatten := by
      rw [List.replicate_succ, List.flatten_cons, List.append_assoc]
    rw [← e2, ← foldl_rep its k (acc ++ its), ← e, List.replicate_succ, List.foldl_cons]

section
variable {X : Cx} {pins : List (Addr × Obj)} {σ : St} {H : Hp} {s : Shared} {l b : Addr} {xs ys zs : List V}

/-! ### the two steps: a tracked list is rewritten, a new list is laid -/
theorem Inv.lset {its its' : List Value} {n : Nat} {f : Array Value → Array Value} {t' : Nat} (I : Inv X pins σ H s) (hH : H l = some (.lst xs))
    (e : s.heap.get? l = some { cls := .type "list", data := .seq its.toArray n }) (hf : f its.toArray = its'.toArray) (hv : Vals ys its') (hz : ys.length ≤ sizeLine) :
    Inv X pins σ (upd H l (.lst ys)) { s with heap := s.heap.update l (Obj.mapSeq f), toks := t' } := by
  have q := PySem.IsL.update e f
  rw [hf] at q
  refine I.write (x := l) (e := l) (by rw [hH]; exact trivial) (.inl rfl) (fun b' u hb hu => (Heap.get?_update_other s.heap (Obj.mapSeq f) (Ne.symm hb)).trans hu) ⟨_, q⟩ ?_
  exact ⟨hz, its', _, hv, q⟩
theorem Inv.lnew {its : List Value} {t' : Nat} (I : Inv X pins σ H s) (hv : Vals ys its) (hz : ys.length ≤ sizeLine) :
    Inv X pins σ (upd H s.heap.objs.size (.lst ys)) { s with heap := s.heap.push { cls := .type "list", data := .seq its.toArray }, toks := t' } :=
  I.laid (fun _ _ q => Heap.get?_push_of_some _ q) (Nat.le_refl _) ⟨hz, its, 0, hv, Heap.get?_push_size _ rfl⟩
theorem Inv.fresh (I : Inv X pins σ H s) : H s.heap.objs.size = none := I.hok.fresh (Nat.le_refl _)
theorem Inv.lstM (I : Inv X pins σ H s) (hH : H l = some (.lst xs)) : xs.length ≤ sizeLine ∧ ∃ (its : List Value) (n : Nat), Vals xs its ∧ xs.length = its.length ∧ s.heap.get? l = some { cls := .type "list", data := .seq its.toArray n } := by
  obtain ⟨z, its, n, r, e⟩ := I.hok l _ hH
  exact ⟨z, its, n, r, r.length, e⟩

theorem notLongL {n : Nat} (h : n ≤ sizeLine) : Builtin.List.listTooLong n = false := by
  unfold Builtin.List.listTooLong
  exact decide_eq_false (by omega)
end

section
variable {X : Cx}

/-! ### methods -/
def rAppend : V → List V → Hp → VK → Prop := fun x vs H Q => ∃ l xs y, x = .ref l ∧ vs = [y] ∧ H l = some (.lst xs) ∧ xs.length < sizeLine ∧ Q .non (upd H l (.lst (xs ++ [y])))
theorem mt_append : MtM X "list.append" rAppend := by
  intro pins s σ H x vs v us Q I rx rv h
  obtain ⟨l, xs, y, rfl, rfl, hH, hz, q⟩ := h
  cases rx
  obtain ⟨u, rfl, ru⟩ := rv.one
  obtain ⟨z, its, n, r, hl, e⟩ := I.lstM hH
  refine call_meets F.slot_list_append ⟨_, e, rfl⟩ F.entry_list_append (F.args_list_append_2 _ _) (PySem.list_append l its.toArray n u (by rw [List.size_toArray]; omega)) ⟨e, ?_⟩
  refine ⟨.non, _, I.lset (its' := its ++ [u]) hH e (by simp) (r.append (.cons ru .nil)) ?_, rfl, q⟩
  rw [List.length_append, List.length_singleton]
  omega

def rExtend : V → List V → Hp → VK → Prop := fun x vs H Q => ∃ l b xs zs, x = .ref l ∧ vs = [.ref b] ∧ H l = some (.lst xs) ∧ H b = some (.lst zs) ∧ xs.length + zs.length ≤ sizeLine ∧ Q .non (upd H l (.lst (xs ++ zs)))
theorem mt_extend : MtM X "list.extend" rExtend := by
  intro pins s σ H x vs v us Q I rx rv h
  obtain ⟨l, b, xs, zs, rfl, rfl, hH, hB, hz, q⟩ := h
  cases rx
  obtain ⟨u, rfl, ru⟩ := rv.one
  cases ru
  obtain ⟨z, its, n, r, hl, e⟩ := I.lstM hH
  obtain ⟨z2, its2, n2, r2, hl2, e2⟩ := I.lstM hB
  have hsz : its.toArray.size + its2.toArray.size ≤ sizeLine := by rw [List.size_toArray, List.size_toArray]; omega
  have hlong : ¬ (!its.toArray.isEmpty && Builtin.List.listTooLong (its.toArray.size + its2.toArray.size)) = true := by
    rw [notLongL hsz, Bool.and_false]
    exact Bool.false_ne_true
  refine call_meets F.slot_list_extend ⟨_, e, rfl⟩ F.entry_list_extend (F.args_list_extend_2 _ _)
    (AutoSeq1.list_extend_list_list_0 l its.toArray n b its2.toArray n2 hlong (by rw [List.size_toArray]; omega) (by omega)) ⟨e, e2, ?_⟩
  refine ⟨.non, _, I.lset (its' := its ++ its2) hH e (by simp) (r.append r2) ?_, rfl, q⟩
  rw [List.length_append]
  omega

/-! ### list + list, list += list, list * int -/
def rCat : R2 := fun x y H Q => ∃ l b xs zs, x = .ref l ∧ y = .ref b ∧ H l = some (.lst xs) ∧ H b = some (.lst zs) ∧ xs.length + zs.length ≤ sizeLine ∧ ∀ p, H p = none → Q (.ref p) (upd H p (.lst (xs ++ zs)))
theorem op_cat : OpR X (binaryOp .Add) rCat := by
  intro pins s σ H x y v u Q I rx ry h
  obtain ⟨l, b, xs, zs, rfl, rfl, hH, hB, hz, q⟩ := h
  cases rx
  cases ry
  obtain ⟨z, its, n, r, hl, e⟩ := I.lstM hH
  obtain ⟨z2, its2, n2, r2, hl2, e2⟩ := I.lstM hB
  refine PySem.P.add_list e e2 ?_ (by rw [List.size_toArray, List.size_toArray]; omega)
  have ea : its.toArray ++ its2.toArray = (its ++ its2).toArray := by simp
  rw [ea]
  exact ⟨.ref _, _, I.lnew (t' := s.toks) (r.append r2) (by rw [List.length_append]; omega), rfl, q _ I.fresh⟩
/-- a list times an int (a negative one is nothing) -/
def rRep : R2 := fun x y H Q => ∃ l k xs, x = .ref l ∧ y = .int k ∧ H l = some (.lst xs) ∧ -(2 ^ 63) ≤ k ∧ k < 2 ^ 63 ∧ xs.length * k.toNat ≤ sizeLine ∧
  ∀ p, H p = none → Q (.ref p) (upd H p (.lst (List.replicate k.toNat xs).flatten))
theorem len_rep {α : Type} (xs : List α) (k : Nat) : (List.replicate k xs).flatten.length = k * xs.length := by
  induction k with
  | zero => simp
  | succ k ih => rw [List.replicate_succ, List.flatten_cons, List.length_append, ih, Nat.succ_mul, Nat.add_comm]
theorem op_rep : OpR X (binaryOp .Mult) rRep := by
  intro pins s σ H x y v u Q I rx ry h
  obtain ⟨l, k, xs, rfl, rfl, hH, h1, h2, hz, q⟩ := h
  cases rx
  obtain ⟨t, rfl⟩ := ry
  obtain ⟨z, its, n, r, hl, e⟩ := I.lstM hH
  have hlen : its.toArray.size * k.toNat ≤ sizeLine := by rw [List.size_toArray, ← hl]; exact hz
  have hcap : ¬ its.toArray.size * k.toNat > (2 ^ 63 - 1) / 8 := by
    have : (sizeLine : Nat) ≤ (2 ^ 63 - 1) / 8 := by decide
    omega
  have hfit : ¬ (!Builtin.List.listFitsIndex k) = true := by
    rw [fitsIndex_both h1 h2]
    exact Bool.false_ne_true
  have hlong : ¬ Builtin.List.listTooLong (its.toArray.size * k.toNat) = true := by
    rw [notLongL hlen]
    exact Bool.false_ne_true
  have hnew : List.foldl (fun x1 x2 => x1 ++ x2) #[] (List.replicate (if its.toArray.isEmpty = true then 0 else k.toNat) its.toArray) = (List.replicate k.toNat its).flatten.toArray := by
    have f0 : ∀ m : Nat, List.foldl (fun x1 x2 => x1 ++ x2) #[] (List.replicate m its.toArray) = (List.replicate m its).flatten.toArray := fun m => by
      have := foldl_rep its m []
      rw [List.nil_append] at this
      exact this
    rw [f0]
    cases its with
    | nil => simp
    | cons a r' => rw [if_neg (by simp)]
  refine wpAny_binaryOp_repeat_ref (T := "list") (U := "int") (by decide) ⟨_, e, rfl⟩ (fun s' => typeIs_int s' k t) noFill_list_mul F.fills_int_mul F.slot_int_rmul repeat_list F.slot_int_index.lookup
    (call_meets F.slot_int_rmul (typeIs_int s k t) F.entry_int_rmul (F.args_int_rmul_2 _ _) (int___rmul___int_list k t l its.toArray n)
      ⟨e, rfl, ⟨_, e, rfl⟩, call_meets F.slot_list_mul ⟨_, e, rfl⟩ F.entry_list_mul (F.args_list_mul_2 _ _) (AutoListH.list___mul___list_int_3 l its.toArray n k t hfit hcap hlong) ⟨e, ?_⟩⟩)
  rw [hnew]
  exact ⟨.ref _, _, I.lnew (t' := s.toks) (r.rep k.toNat) (by rw [len_rep, Nat.mul_comm]; exact hz), rfl, q _ I.fresh⟩

/-! ### del xs[i] -/
end

/-! ### xs[a:b] = ys -/
section
variable {prog : Program} {w : World} {A : Around} {E : Value → Shared → Prop} {s : Shared}
set_option maxRecDepth 100000 in
end

section
variable {X : Cx}
end
end L2

namespace L2
open PySem PySem.Spec PyProof.Rows

theorem Vals.ints : ∀ {ns : List Int} {us : List Value}, Vals (ns.map V.int) us → IntsAre us ns
  | [], us, h => by
    rw [List.map_nil] at h
    cases h
    exact IntsAre.nil
  | n :: ns, us, h => by
    rw [List.map_cons] at h
    cases h with
    | cons r t =>
      obtain ⟨k, rfl⟩ := r
      exact IntsAre.cons n k (Vals.ints t)
theorem vals_of_ints : ∀ {us : List Value} {ns : List Int}, IntsAre us ns → Vals (ns.map V.int) us
  | _, _, .nil => by rw [List.map_nil]; exact Paired.nil
  | _, _, .cons n t h => by rw [List.map_cons]; exact Paired.cons (show RelV (V.int n) (Value.int n t) from ⟨t, rfl⟩) (vals_of_ints h)
theorem Vals.strs : ∀ {xs : List Str} {us : List Value}, Vals (xs.map V.str) us → StrsAre us xs
  | [], us, h => by
    rw [List.map_nil] at h
    cases h
    exact StrsAre.nil
  | x :: xs, us, h => by
    rw [List.map_cons] at h
    cases h with
    | cons r t =>
      obtain ⟨k, rfl⟩ := r
      exact StrsAre.cons x k (Vals.strs t)
theorem Vals.ref1 {a : Addr} {us : List Value} (r : Vals [V.ref a] us) : us = [Value.ref a] := by
  cases r with
  | cons r t =>
    cases t
    cases r
    rfl
/-! ### the library's walks over a list of ints, kept objects alone -/
section
variable {prog : Program} {w : World} {A : Around} {E : Value → Shared → Prop} {s : Shared} {l : Addr} {its : List Value} {ns : List Int} {Q : Value → Shared → Prop}
theorem sum_raw (hh : A.handled = none) (hl : s.heap.IsList l its.toArray) (hi : IntsAre its ns)
    (h : ∀ h' tk t', (∀ b o, s.heap.get? b = some o → h'.get? b = some o) → Q (.int ns.sum t') { s with heap := h', toks := tk }) : wpAny (model prog w) A (call (.builtin "sum") [.ref l]) Q E s := by
  obtain ⟨xs, e⟩ := hi.allInts.items
  have hn : numsOf (intItems xs).toList = ns := by rw [← e]; exact hi.numsOf
  rw [nums_intItems] at hn
  rw [e] at hl
  refine PySem.sum_intListG hh hl fun h' tk t' hk => ?_
  have := h h' tk t' hk
  rw [preSum_eq, List.take_of_length_le (by simp), hn]; exact this
end

/-! ### the calls, by values (CallR of 03t; MtR of 06l) -/
section
variable {X : Cx}
/-- sum(xs) of a list of ints -/
def rSum (K : PySem.W.Frag) : List V → Hp → VK → Prop := fun vs H Q => ∃ (a : Addr) (ns : List Int), vs = [V.ref a] ∧ SqL K H a (ns.map V.int) ∧ Q (.int ns.sum) H
theorem cr_sum (hc : X.calm = true) : CallR X (.builtin "sum") (rSum X.K) := by
  intro pins s σ H vs us Q I r h
  obtain ⟨a, ns, rfl, hs, q⟩ := h
  obtain ⟨its, rv, hl, _⟩ := I.list hs
  rw [Vals.ref1 r]
  exact sum_raw (I.ok.hd hc) hl.isList rv.ints fun h' tk t' hk => ⟨.int _, H, I.kept hk, ⟨_, rfl⟩, q⟩
/-! sorted, sort (fewer than 64 items: the library's own bound) -/
def rSorted (K : PySem.W.Frag) : List V → Hp → VK → Prop := fun vs H Q => ∃ (a : Addr) (ns : List Int), vs = [V.ref a] ∧ SqL K H a (ns.map V.int) ∧ ns.length < 64 ∧
  ∀ (ns' : List Int) (p : Addr), ns'.Perm ns → ns'.Pairwise (· ≤ ·) → H p = none → Q (.ref p) (upd H p (.lst (ns'.map V.int)))
theorem small64 {n : Nat} (h : n < 64) : n ≤ sizeLine := by rw [sizeLine_eq]; omega
theorem cr_sorted : CallR X (.builtin "sorted") (rSorted X.K) := by
  intro pins s σ H vs us Q I r h
  obtain ⟨a, ns, rfl, hs, h64, q⟩ := h
  obtain ⟨its, rv, hl, _⟩ := I.list hs
  rw [Vals.ref1 r]
  have hi := rv.ints
  refine PyProof.Rows.sorted_ints hl.isList hi (by rw [hi.length]; exact h64) fun out ns' h1 h2 h3 => ?_
  obtain ⟨ep, he'⟩ := PyProof.Rows.sortedAll_at s.heap its out
  have hlen : (ns'.map V.int).length ≤ sizeLine := by rw [List.length_map, h2.length_eq]; exact small64 h64
  exact ⟨.ref _, upd H (s.heap.objs.size + 1) (.lst (ns'.map V.int)), I.laid (t' := s.toks) (fun _ _ => PyProof.Rows.sortedAll_old) (Nat.le_succ _) ⟨hlen, out.toList, ep, vals_of_ints h1, he'⟩, rfl, q ns' _ h2 h3 (I.hok.fresh (Nat.le_succ _))⟩
end

/-! ### list.index, flat items -/
section
variable {X : Cx}
theorem flat_at {ys : List V} (f : ys.all flatV = true) {j : Nat} {z : V} (h : ys[j]? = some z) : flatV z = true := List.all_eq_true.mp f z (List.mem_of_getElem? h)
end

/-! ### type(x) of an own instance; is, is not of a module's class -/
section
variable {X : Cx}
end

/-! ### any(xs), all(xs) of a list of bools -/
section
variable {X : Cx}
end

/-! ### == and != of data at any depth: none, bools, ints, texts, lists, tuples -/
mutual
inductive Dp (K : PySem.W.Frag) (H : Hp) : V → PyData → Prop
  | non : Dp K H .non .none
  | bl (b : Bool) : Dp K H (.bl b) (.bool b)
  | int (i : Int) : Dp K H (.int i) (.int i)
  | str (x : Str) : Dp K H (.str x) (.str x)
  | lst {a : Addr} {xs : List V} {ds : List PyData} : SqL K H a xs → DpAll K H xs ds → Dp K H (.ref a) (.list ds)
  | tup {a : Addr} {xs : List V} {ds : List PyData} : SqT K H a xs → DpAll K H xs ds → Dp K H (.ref a) (.tuple ds)
inductive DpAll (K : PySem.W.Frag) (H : Hp) : List V → List PyData → Prop
  | nil : DpAll K H [] []
  | cons {v : V} {vs : List V} {d : PyData} {ds : List PyData} : Dp K H v d → DpAll K H vs ds → DpAll K H (v :: vs) (d :: ds)
end
section
variable {X : Cx} {pins : List (Addr × Obj)} {σ : St} {H : Hp} {s : Shared}
mutual
theorem Dp.reads (I : Inv X pins σ H s) : ∀ (d : PyData) (v : V) (u : Value), Dp X.K H v d → RelV v u → ∃ as, Reads s.heap u d as
  | .none, _, _, h, r => by
    cases h
    cases r
    exact ⟨_, Reads.none⟩
  | .bool b, _, _, h, r => by
    cases h
    cases r
    exact ⟨_, Reads.bool b⟩
  | .int i, _, _, h, r => by
    cases h
    obtain ⟨t, rfl⟩ := r
    exact ⟨_, Reads.int i t⟩
  | .str x, _, _, h, r => by
    cases h
    obtain ⟨t, rfl⟩ := r
    exact ⟨_, Reads.str x t⟩
  | .list ds, _, _, h, r => by
    cases h with
    | lst hs ha =>
      cases r
      obtain ⟨its, rv, ⟨o, n, ho, hc, _, hd⟩, _⟩ := I.list hs
      obtain ⟨as, hr⟩ := Dp.readsAll I ds _ its ha rv
      exact ⟨_, Reads.list ho hc hd hr⟩
  | .tuple ds, _, _, h, r => by
    cases h with
    | tup hs ha =>
      cases r
      obtain ⟨its, rv, ⟨o, ho, hc, n, hd⟩, _⟩ := I.tuple hs
      obtain ⟨as, hr⟩ := Dp.readsAll I ds _ its ha rv
      exact ⟨_, Reads.tuple ho hc hd hr⟩
  | .dict _, _, _, h, _ => by cases h
theorem Dp.readsAll (I : Inv X pins σ H s) : ∀ (ds : List PyData) (vs : List V) (us : List Value), DpAll X.K H vs ds → Vals vs us → ∃ as, ReadsAll s.heap us ds as
  | [], _, _, h, r => by
    cases h
    cases r
    exact ⟨_, ReadsAll.nil⟩
  | d :: ds, _, _, h, r => by
    cases h with
    | cons h1 h2 =>
      cases r with
      | cons r1 r2 =>
        obtain ⟨as, q1⟩ := Dp.reads I d _ _ h1 r1
        obtain ⟨bs, q2⟩ := Dp.readsAll I ds _ _ h2 r2
        exact ⟨_, ReadsAll.cons q1 q2⟩
end
end
section
variable {X : Cx}
def rEqD (K : PySem.W.Frag) : R2 := fun x y H Q => ∃ d e, Dp K H x d ∧ Dp K H y e ∧ SeqAt.shaped d = true ∧ SeqAt.shaped e = true ∧ Q (.bl (PyData.eqv d e)) H
theorem op_eqD (hu : X.A.units + 64 < cLine) : OpR X (compareOp .Eq) (rEqD X.K) := by
  intro pins s σ H x y v u Q I rx ry h
  obtain ⟨d, e, hd, he, sd, se, q⟩ := h
  obtain ⟨as, r1⟩ := Dp.reads I d x v hd rx
  obtain ⟨bs, r2⟩ := Dp.reads I e y u he ry
  exact SeqAt.compareEq_shaped r1 r2 sd se hu ⟨.bl _, H, I, rfl, q⟩
end
end L2

namespace L2
open PySem PySem.Spec PyProof.Rows
abbrev CellAt (h : Heap) (c : Addr) (v : Option Value) : Prop := h.IsCell c v
def relS (scope sc : Scope) : Scope :=
  { scope with names := scope.names.map fun (n, k) => if (k == .free && sc.kind == .function && sc.names.lookup n == some .cell) then (n, .cell) else (n, k) }

def cloFrom (cells : List (Str × Addr)) : List (Str × NameKind) → List (Str × Addr) → List (Str × Addr)
  | [], acc => acc
  | (n, k) :: r, acc => if k == .free then cloFrom cells r ((n, (cells.lookup n).getD 0) :: acc) else cloFrom cells r acc

theorem closure_loop (env : Env) (f : Str × NameKind → List (Str × Addr) → Sem (ForInStep (List (Str × Addr))))
    (hf : ∀ n k c, f (n, k) c = if k == .free then (do let a ← cellOf env n; pure (.yield ((n, a) :: c))) else pure (.yield c)) :
    ∀ (names : List (Str × NameKind)) (acc : List (Str × Addr)), (∀ y ∈ names, y.2 = .free → ∃ c, env.cells.lookup y.1 = some c) → forIn names acc f = pure (cloFrom env.cells names acc)
  | [], acc, _ => by rw [List.forIn_nil]; rfl
  | (n, k) :: r, acc, h => by
    rw [List.forIn_cons, hf]
    have ih := fun acc => closure_loop env f hf r acc fun y hy => h y (List.mem_cons_of_mem _ hy)
    unfold cloFrom
    by_cases hk : (k == NameKind.free) = true
    · rw [if_pos hk, if_pos hk]
      obtain ⟨c, hc⟩ := h (n, k) List.mem_cons_self (by simpa using hk)
      have e : cellOf env n = pure c := by unfold cellOf; rw [hc]
      rw [e]
      have e2 : (env.cells.lookup n).getD 0 = c := by rw [hc]; rfl
      rw [e2]
      exact ih _
    · rw [if_neg hk, if_neg hk]
      exact ih _
theorem closure_ok {scope : Scope} {env : Env} (h : ∀ y ∈ scope.names, y.2 = .free → ∃ c, env.cells.lookup y.1 = some c) : closureFor scope env = pure (cloFrom env.cells scope.names []) := by
  simp only [closureFor]
  rw [closure_loop env _ (fun n k c => rfl) scope.names [] h]
  rfl

theorem mem_lookup {α : Type} : ∀ {l : List (Str × α)} {n : Str} {c : α}, (n, c) ∈ l → ∃ c', l.lookup n = some c'
  | (k, v) :: r, n, c, h => by
    rw [List.lookup_cons]
    cases hb : n == k with
    | true => exact ⟨_, rfl⟩
    | false =>
      rcases List.mem_cons.mp h with e | h
      · cases e; simp at hb
      · exact mem_lookup h

theorem cloFrom_mem {cells : List (Str × Addr)} : ∀ {names : List (Str × NameKind)} {acc : List (Str × Addr)} {n : Str} {c : Addr}, (n, c) ∈ cloFrom cells names acc → (n, c) ∈ acc ∨ ((n, .free) ∈ names ∧ c = (cells.lookup n).getD 0)
  | [], _, _, _, h => .inl h
  | (m, k) :: r, acc, n, c, h => by
    unfold cloFrom at h
    split at h
    · rename_i hk
      have hk : k = .free := by simpa using hk
      rcases cloFrom_mem h with h | ⟨h1, h2⟩
      · rcases List.mem_cons.mp h with e | h
        · cases e; exact .inr ⟨hk ▸ List.mem_cons_self, rfl⟩
        · exact .inl h
      · exact .inr ⟨List.mem_cons_of_mem _ h1, h2⟩
    · rcases cloFrom_mem h with h | ⟨h1, h2⟩
      · exact .inl h
      · exact .inr ⟨List.mem_cons_of_mem _ h1, h2⟩
theorem cloFrom_acc {cells : List (Str × Addr)} : ∀ {names : List (Str × NameKind)} {acc : List (Str × Addr)} {p : Str × Addr}, p ∈ acc → p ∈ cloFrom cells names acc
  | [], _, _, h => h
  | (m, k) :: r, acc, p, h => by
    unfold cloFrom
    split
    · exact cloFrom_acc (List.mem_cons_of_mem _ h)
    · exact cloFrom_acc h
theorem cloFrom_has {cells : List (Str × Addr)} : ∀ {names : List (Str × NameKind)} {acc : List (Str × Addr)} {n : Str}, (n, .free) ∈ names → (n, (cells.lookup n).getD 0) ∈ cloFrom cells names acc
  | (m, k) :: r, acc, n, h => by
    unfold cloFrom
    rcases List.mem_cons.mp h with e | h
    · cases e
      exact cloFrom_acc List.mem_cons_self
    · split
      · exact cloFrom_has h
      · exact cloFrom_has h

theorem cells_mem : ∀ {names : List (Str × NameKind)} {h : Heap} {acc : List (Str × Addr)} {x : Str} {c : Addr}, (x, c) ∈ cellsFrom h.objs.size names acc →
    (x, c) ∈ acc ∨ ((x, .cell) ∈ names ∧ h.objs.size ≤ c ∧ CellAt (pushCells h names) c none)
  | [], _, _, _, _, h => .inl h
  | (n, k) :: r, h, acc, x, c, hm => by
    unfold cellsFrom at hm
    unfold pushCells
    split at hm
    · rename_i hk
      rw [if_pos hk]
      have hk : k = .cell := by simpa using hk
      rw [← Heap.size_push h { cls := .type "cell", data := .cell none }] at hm
      rcases cells_mem hm with hm | ⟨h1, h2, h3⟩
      · rcases List.mem_cons.mp hm with e | hm
        · cases e
          exact .inr ⟨hk ▸ List.mem_cons_self, Nat.le_refl _, _, pushCells_keeps r _ _ _ (Heap.get?_push_size _ rfl), rfl⟩
        · exact .inl hm
      · rw [Heap.size_push] at h2
        exact .inr ⟨List.mem_cons_of_mem _ h1, Nat.le_of_succ_le h2, h3⟩
    · rename_i hk
      rw [if_neg hk]
      rcases cells_mem hm with hm | ⟨h1, h2, h3⟩
      · exact .inl hm
      · exact .inr ⟨List.mem_cons_of_mem _ h1, h2, h3⟩
theorem cells_acc : ∀ {names : List (Str × NameKind)} {n : Nat} {acc : List (Str × Addr)} {p : Str × Addr}, p ∈ acc → p ∈ cellsFrom n names acc
  | [], _, _, _, h => h
  | (m, k) :: r, n, acc, p, h => by
    unfold cellsFrom
    split
    · exact cells_acc (List.mem_cons_of_mem _ h)
    · exact cells_acc h
theorem cells_has : ∀ {names : List (Str × NameKind)} {n : Nat} {acc : List (Str × Addr)} {x : Str}, (x, .cell) ∈ names → ∃ c, (x, c) ∈ cellsFrom n names acc
  | (m, k) :: r, n, acc, x, h => by
    unfold cellsFrom
    rcases List.mem_cons.mp h with e | h
    · cases e
      exact ⟨n, cells_acc List.mem_cons_self⟩
    · split
      · exact cells_has h
      · exact cells_has h
theorem cells_inj : ∀ {names : List (Str × NameKind)} {h : Heap} {acc : List (Str × Addr)} {x y : Str} {c : Addr}, (∀ p ∈ acc, p.2 < h.objs.size) → (∀ x y c, (x, c) ∈ acc → (y, c) ∈ acc → x = y) →
    (x, c) ∈ cellsFrom h.objs.size names acc → (y, c) ∈ cellsFrom h.objs.size names acc → x = y
  | [], _, _, _, _, _, _, hi, h1, h2 => hi _ _ _ h1 h2
  | (n, k) :: r, h, acc, x, y, c, hl, hi, h1, h2 => by
    unfold cellsFrom at h1 h2
    split at h1
    · rename_i hk
      rw [if_pos hk] at h2
      rw [← Heap.size_push h { cls := .type "cell", data := .cell none }] at h1 h2
      refine cells_inj (h := h.push _) (fun p hp => ?_) (fun x y c a b => ?_) h1 h2
      · rw [Heap.size_push]
        rcases List.mem_cons.mp hp with rfl | hp
        · exact Nat.lt_succ_self _
        · exact Nat.lt_succ_of_lt (hl p hp)
      · rcases List.mem_cons.mp a with e | a <;> rcases List.mem_cons.mp b with e' | b
        · cases e; cases e'; rfl
        · cases e; exact absurd (hl _ b) (Nat.lt_irrefl _)
        · cases e'; exact absurd (hl _ a) (Nat.lt_irrefl _)
        · exact hi _ _ _ a b
    · rename_i hk
      rw [if_neg hk] at h2
      exact cells_inj hl hi h1 h2

theorem newEnv_comp {M : Model} {A : Around} {E : Value → Shared → Prop} {s : Shared} {scope : Scope} {globals : Addr} {closure : List (Str × Addr)} {qual : Str} {func : Option Addr} {code : Value} {around : Env} {builtins : Addr} {Q : Env → Shared → Prop}
    (h : Q (newEnv scope s.heap.objs.size globals (cellsFrom (s.heap.objs.size + 1) scope.names closure) qual func code (some around) builtins)
      { s with heap := pushCells (s.heap.push { cls := .type "dict", data := .dict #[] }) scope.names }) :
    wpAny M A (newFunctionEnv scope globals closure [] qual func code (some around) builtins) Q E s := by
  simp only [newFunctionEnv, Option.isSome_some, if_true]
  refine wpAny_bind (wpAny_alloc ?_)
  refine wpAny_bind (wpAny_layCells _ (fun n k c => rfl) scope.names closure _ _ ?_)
  rw [show ({ s with heap := s.heap.push { cls := .type "dict", data := .dict #[] } } : Shared).heap.objs.size = s.heap.objs.size + 1 from Heap.size_push ..]
  rw [List.forIn_nil]
  exact wpAny_bind (wpAny_pure (wpAny_pure h))

/-- every name of the written scope, in the scope that runs -/
theorem lookup_relS {sc : Scope} : ∀ {names : List (Str × NameKind)} {x : Str} {k : NameKind},
    (names.map fun (n, k) => if (k == NameKind.free && sc.kind == .function && sc.names.lookup n == some .cell) then (n, NameKind.cell) else (n, k)).lookup x = some k →
    ∃ k', names.lookup x = some k' ∧ (k = k' ∨ (k' = .free ∧ k = .cell))
  | [], _, _, h => by simp at h
  | (n, k₀) :: r, x, k, h => by
    have ih := @lookup_relS sc r x k
    have h' : List.lookup x ((if (k₀ == NameKind.free && sc.kind == .function && sc.names.lookup n == some .cell) = true then (n, NameKind.cell) else (n, k₀)) :: (r.map _)) = some k := h
    cases hx : x == n with
    | true =>
      simp only [List.lookup_cons, hx]
      by_cases hc : (k₀ == NameKind.free && sc.kind == .function && sc.names.lookup n == some .cell) = true
      · rw [if_pos hc] at h'
        simp only [List.lookup_cons, hx] at h'
        cases h'
        simp only [Bool.and_eq_true, beq_iff_eq] at hc
        exact ⟨k₀, rfl, .inr ⟨hc.1.1, rfl⟩⟩
      · rw [if_neg hc] at h'
        simp only [List.lookup_cons, hx] at h'
        cases h'
        exact ⟨_, rfl, .inl rfl⟩
    | false =>
      simp only [List.lookup_cons, hx]
      by_cases hc : (k₀ == NameKind.free && sc.kind == .function && sc.names.lookup n == some .cell) = true
      · rw [if_pos hc] at h'
        simp only [List.lookup_cons, hx] at h'
        exact ih h'
      · rw [if_neg hc] at h'
        simp only [List.lookup_cons, hx] at h'
        exact ih h'
/-- the names of a comprehension's block: its own (with their places in N), or captured -/
structure BlkOk (N : List Str) (sc scope : Scope) (own : List (Str × Nat)) : Prop where
  kind : scope.kind = .function
  uniq : ∀ y ∈ scope.names, scope.names.lookup y.1 = some y.2
  ix : ∀ p ∈ own, N[p.2]? = some p.1
  free : ∀ y ∈ scope.names, y.2 = .free → sc.names.lookup y.1 = some .cell ∨ sc.names.lookup y.1 = some .free
  own : ∀ y ∈ scope.names, y.2 = .local ∨ y.2 = .cell → y.1 ∈ own.map (·.1) ∨ y.1 ∉ N
/-- the slots of the block's own names forgotten -/
def wipe (σ : St) : List Nat → St
  | [] => σ
  | v :: vs => (wipe σ vs).set v none
theorem wipe_length (σ : St) : ∀ vs : List Nat, (wipe σ vs).length = σ.length
  | [] => rfl
  | v :: vs => by unfold wipe; rw [List.length_set, wipe_length σ vs]
theorem wipe_some {σ : St} {i : Nat} {x : V} : ∀ {vs : List Nat}, (wipe σ vs)[i]? = some (some x) → σ[i]? = some (some x) ∧ i ∉ vs
  | [], h => ⟨h, by simp⟩
  | v :: vs, h => by
    unfold wipe at h
    by_cases hi : v = i
    · subst hi
      by_cases hv : v < (wipe σ vs).length
      · rw [List.getElem?_set_self hv] at h; cases h
      · rw [List.getElem?_eq_none (by simpa using hv)] at h; cases h
    · rw [List.getElem?_set_ne hi] at h
      obtain ⟨h1, h2⟩ := wipe_some h
      exact ⟨h1, by simp only [List.mem_cons, not_or]; exact ⟨fun e => hi e.symm, h2⟩⟩

/-- the context of a block that starts at s, its iterator's objects at fp -/
abbrev Cx.blk (X : Cx) (s : Shared) (H : Hp) (scope : Scope) (cenv : Env) (fp : List Addr) : Cx := { X with s_0 := s, H_0 := H, env := cenv, outer := X.stack, ex := fp, fn := fun x => scope.names.lookup x == some .cell, pn := [], xe := fun _ _ => False }
section
variable {X : Cx} {pins : List (Addr × Obj)} {σ : St} {H : Hp} {s : Shared}
theorem block_start {scope : Scope} {own : List (Str × Nat)} {fp : List Addr} (I : Inv X pins σ H s) (ok : BlkOk X.N X.env.scope scope own) (hN : X.N.Nodup) (hfp : ∀ b ∈ fp, FpOk X pins H b ∧ b < s.heap.objs.size) :
    Inv (X.blk s H scope (compEnvC scope (cellsFrom (s.heap.objs.size + 1) scope.names (cloFrom X.env.cells scope.names [])) s.heap.objs.size X.env) fp) [] (wipe σ (own.map (·.2))) H { s with heap := pushCells (s.heap.push { cls := .type "dict", data := .dict #[] }) scope.names } := by
  have hfree : ∀ y ∈ scope.names, y.2 = .free → ∃ c, X.env.cells.lookup y.1 = some c := fun y hy e => by
    rcases ok.free y hy e with k | k
    · exact I.ok.has _ (.inl k)
    · exact I.ok.has _ (.inr k)
  generalize hcenv : compEnvC scope (cellsFrom (s.heap.objs.size + 1) scope.names (cloFrom X.env.cells scope.names [])) s.heap.objs.size X.env = cenv
  have kp : ∀ b o, s.heap.get? b = some o → (pushCells (s.heap.push { cls := .type "dict", data := .dict #[] }) scope.names).get? b = some o := fun b o e => pushCells_keeps _ _ _ _ (Heap.get?_push_of_some _ e)
  have hL : cenv.locals = s.heap.objs.size := by rw [← hcenv]; rfl
  have hcl : cenv.cells = cellsFrom (s.heap.objs.size + 1) scope.names (cloFrom X.env.cells scope.names []) := by rw [← hcenv]; rfl
  have hsc : cenv.scope = relS scope X.env.scope := by rw [← hcenv]; rfl
  rw [← Heap.size_push s.heap { cls := .type "dict", data := .dict #[] }] at hcl
  have cm : ∀ {y c}, (y, c) ∈ cloFrom X.env.cells scope.names [] → X.env.cells.lookup y = some c ∧ c < s.heap.objs.size := fun {y c} hm => by
    rcases cloFrom_mem hm with hm | ⟨h1, rfl⟩
    · cases hm
    · obtain ⟨c, hc⟩ := hfree _ h1 rfl
      rw [hc]
      obtain ⟨w, z⟩ := I.cell _ _ hc
      exact ⟨rfl, z.lt⟩
  have mem : ∀ {y c}, cenv.cells.lookup y = some c → (X.env.cells.lookup y = some c ∧ c < s.heap.objs.size) ∨ (s.heap.objs.size + 1 ≤ c ∧ CellAt (pushCells (s.heap.push { cls := .type "dict", data := .dict #[] }) scope.names) c none) := fun {y c} e => by
    rw [hcl] at e
    rcases cells_mem (PySem.mem_of_lookup e) with hm | ⟨_, h2, h3⟩
    · exact .inl (cm hm)
    · rw [Heap.size_push] at h2; exact .inr ⟨h2, h3⟩
  have look : ∀ {y}, scope.names.lookup y = some .free → ∃ c, cenv.cells.lookup y = some c ∧ X.env.cells.lookup y = some c := fun {y} hl => by
    have hy : (y, NameKind.free) ∈ scope.names := PySem.mem_of_lookup hl
    obtain ⟨c', e'⟩ := mem_lookup (cells_acc (names := scope.names) (n := (s.heap.push { cls := .type "dict", data := .dict #[] }).objs.size) (cloFrom_has (cells := X.env.cells) (acc := []) hy))
    rw [← hcl] at e'
    refine ⟨c', e', ?_⟩
    rw [hcl] at e'
    rcases cells_mem (PySem.mem_of_lookup e') with hm | ⟨h1, _, _⟩
    · exact (cm hm).1
    · have := ok.uniq _ h1
      rw [hl] at this; cases this
  have okB : (X.blk s H scope cenv fp).Ok := by
    refine ⟨I.ok.mod, by show cenv.scope.kind = _; rw [hsc]; exact ok.kind, by show cenv.globals = _; rw [← hcenv]; exact I.ok.glob, by show cenv.builtins = _; rw [← hcenv]; exact I.ok.blt, by show s.heap.objs.size ≤ cenv.locals; rw [hL]; exact Nat.le_refl _,
      fun y z c e1 e2 => ?_, fun y hy => ?_, fun y c z e => ?_, I.ok.hd, I.ok.frames, .inl rfl, fun b hb => ⟨?_, fun y c e z => ?_⟩, I.bs, Nat.le_trans I.ok.bsz I.sz, fun b o e hb => ?_, fun b hb z => ?_, I.stack, I.stkFree⟩
    · have e1 : cenv.cells.lookup y = some c := e1
      have e2 : cenv.cells.lookup z = some c := e2
      rw [hcl] at e1 e2
      refine cells_inj (fun p hp => ?_) (fun y z c a b => I.ok.inj y z c (cm a).1 (cm b).1) (PySem.mem_of_lookup e1) (PySem.mem_of_lookup e2)
      rw [Heap.size_push]
      exact Nat.lt_succ_of_lt (cm (y := p.1) (c := p.2) hp).2
    · show ∃ c, cenv.cells.lookup y = some c
      have key : ∀ k, cenv.kindOf y = some k → (k = .cell ∨ k = .free) → ∃ c, cenv.cells.lookup y = some c := fun k hk hk' => by
        unfold Env.kindOf at hk
        rw [hsc] at hk
        obtain ⟨k', e, r⟩ := lookup_relS hk
        have : k' = .cell ∨ k' = .free := by
          rcases r with rfl | ⟨rfl, _⟩
          · exact hk'
          · exact .inr rfl
        rcases this with rfl | rfl
        · obtain ⟨c, hm⟩ := cells_has (n := (s.heap.push { cls := .type "dict", data := .dict #[] }).objs.size) (acc := cloFrom X.env.cells scope.names []) (PySem.mem_of_lookup e)
          obtain ⟨c', e'⟩ := mem_lookup hm
          exact ⟨c', by rw [hcl]; exact e'⟩
        · obtain ⟨c, h1, _⟩ := look e
          exact ⟨c, h1⟩
      rcases hy with hy | hy
      · exact key _ hy (.inl rfl)
      · exact key _ hy (.inr rfl)
    · have z : (scope.names.lookup y == some NameKind.cell) = true := z
      have z : scope.names.lookup y = some .cell := by simpa using z
      have e : cenv.cells.lookup y = some c := e
      rw [hcl] at e
      rcases cells_mem (PySem.mem_of_lookup e) with hm | ⟨_, h2, _⟩
      · rcases cloFrom_mem hm with hm | ⟨h1, _⟩
        · cases hm
        · have q := ok.uniq _ h1
          rw [z] at q; cases q
      · rw [Heap.size_push] at h2
        exact Nat.le_of_succ_le h2
    · show b ≠ cenv.locals
      rw [hL]; exact Nat.ne_of_lt (hfp b hb).2
    · have e : cenv.cells.lookup y = some c := e
      rcases mem e with ⟨h1, _⟩ | ⟨h1, _⟩
      · exact (hfp b hb).1.2.2.2.2.1 y c h1 z
      · have h2 : s.heap.objs.size + 1 ≤ b := by rw [← z]; exact h1
        exact absurd (Nat.lt_of_lt_of_le (hfp b hb).2 (Nat.le_of_succ_le h2)) (Nat.lt_irrefl _)
    · rcases (hfp b hb).1.2.2.2.1 with z | z
      · exact I.ok.noex b o e z
      · exact absurd (Nat.lt_of_lt_of_le (Heap.lt_size e) (Nat.le_trans I.ok.bsz z)) (Nat.lt_irrefl _)
    · rcases List.mem_cons.mp (I.stkSub b z) with z | z
      · exact (hfp b hb).1.2.1 z
      · exact (hfp b hb).1.2.2.1 z
  refine ⟨okB, rfl, I.bare, Un.kept kp, ⟨fun _ => none, ?_, fun i y av e1 e2 e3 => ?_⟩, fun y c e => ?_, ?_, fun y c e => ?_, fun p hp => ?_, I.hok.kept kp, by rw [wipe_length]; exact I.len⟩
  · show Heap.Ns _ cenv.locals _
    rw [hL]
    exact Heap.Ns.keeps (Heap.Ns.new ..) fun b o e => pushCells_keeps _ _ _ _ e
  · obtain ⟨e2, hne⟩ := wipe_some e2
    have hfr : scope.names.lookup y = some .free ∧ (cenv.kindOf y = some .cell ∨ cenv.kindOf y = some .free) := by
      have key : ∀ k, cenv.scope.names.lookup y = some k → k = .local ∨ k = .cell ∨ k = .free → scope.names.lookup y = some .free ∧ (cenv.kindOf y = some .cell ∨ cenv.kindOf y = some .free) := fun k hk hk' => by
        have hk0 := hk
        rw [hsc] at hk
        obtain ⟨k', e, r⟩ := lookup_relS hk
        have no : ¬ (k' = .local ∨ k' = .cell) := fun hh => by
          rcases ok.own _ (PySem.mem_of_lookup e) hh with e' | e'
          · obtain ⟨p, hp, hpy⟩ := List.mem_map.mp e'
            have e3 := ok.ix p hp
            have : p.1 = y := hpy
            rw [this] at e3
            exact hne (List.mem_map.mpr ⟨p, hp, nodup_ix hN e3 e1⟩)
          · exact e' (List.mem_of_getElem? e1)
        rcases r with rfl | ⟨rfl, rfl⟩
        · rcases hk' with rfl | rfl | rfl
          · exact absurd (.inl rfl) no
          · exact absurd (.inr rfl) no
          · exact ⟨e, .inr hk0⟩
        · exact ⟨e, .inl hk0⟩
      have e3 : Vis cenv.scope y := e3
      rcases e3 with e3 | e3 | e3
      · exact key _ e3 (.inl rfl)
      · exact key _ e3 (.inr (.inl rfl))
      · exact key _ e3 (.inr (.inr rfl))
    obtain ⟨m, hn, hl⟩ := I.loc
    have hvis : Vis X.env.scope y := (ok.free _ (PySem.mem_of_lookup hfr.1) rfl).elim (fun k => .inr (.inl k)) (fun k => .inr (.inr k))
    obtain ⟨w, r, q⟩ := hl i y av e1 e2 hvis
    refine ⟨w, r, .inr ⟨hfr.2, ?_⟩⟩
    obtain ⟨c, h1, h2⟩ := look hfr.1
    rcases q with ⟨k, _⟩ | ⟨_, c', e', z⟩
    · have k : X.env.scope.names.lookup y = some .local := k
      rcases ok.free _ (PySem.mem_of_lookup hfr.1) rfl with k' | k' <;> rw [show X.env.scope.names.lookup y = _ from k'] at k <;> cases k
    · rw [h2] at e'; cases e'
      exact ⟨c, h1, z.keeps kp⟩
  · have e : cenv.cells.lookup y = some c := e
    rcases mem e with ⟨h1, _⟩ | ⟨_, z⟩
    · obtain ⟨w, z⟩ := I.cell y c h1
      exact ⟨w, z.keeps kp⟩
    · exact ⟨_, z⟩
  · show H cenv.locals = none
    rw [hL]; exact I.hok.fresh (Nat.le_refl _)
  · have e : cenv.cells.lookup y = some c := e
    rcases mem e with ⟨h1, _⟩ | ⟨h1, _⟩
    · exact I.freeC y c h1
    · exact I.hok.fresh (Nat.le_of_succ_le h1)
  · exact absurd (show p ∈ ([] : List (Addr × Obj)) ++ [] from hp) (by simp)

/-- an item appended to a tracked list -/
theorem app_ok {E : Value → Shared → Prop} {D : Addr} {xs : List V} {y : V} {v : Value} {Q : Value → Shared → Prop} (I : Inv X pins σ H s) (hD : H D = some (.lst xs)) (hz : xs.length < sizeLine) (r : RelV y v)
    (h : ∀ s', Inv X pins σ (upd H D (.lst (xs ++ [y]))) s' → Q .none s') : wpAny (model X.prog X.w) X.A (call (.builtin "list.append") [.ref D, v]) Q E s := by
  obtain ⟨hz', its, n, ri, e⟩ := I.hok D _ hD
  have hl := ri.length
  refine append_at (hsz := by rw [List.size_toArray]; omega) e fun h' sb ho' => ?_
  refine h { s with heap := h' } (I.write (t' := s.toks) (by rw [hD]; trivial) (.inl rfl) (fun b u hb q => (sb.2 b hb).trans q) ⟨_, ho'⟩ ⟨by rw [List.length_append]; exact hz, its ++ [v], n + 1, ri.append (.cons r .nil), ?_⟩)
  rw [ho']
  simp

/-- a clause's tests -/
def PTs (X : Cx) (ifs : List Expr) (t : TT) : Prop :=
  ∀ (pins : List (Addr × Obj)) (s : Shared) (σ : St) (H : Hp) (Q : Bool → Hp → Prop), Inv X pins σ H s → t σ H Q →
    wpAny (model X.prog X.w) X.A (forIn ifs true fun c r => if r = true then do let ok ← isTrue c X.env (eval c X.env); pure (ForInStep.yield ok) else pure (ForInStep.yield r)) (TP X pins σ Q) X.xe s
def tYes : TT := fun _ H Q => Q true H
theorem pts_nil : PTs X [] tYes := fun _ _ _ H _ I h => wpAny_tests_nil ⟨H, I, h⟩
end

theorem thnF {α : Type} {t : Sem α} {Q Q' : α → Shared → Prop} {M : Model} {A : Around} {E : Value → Shared → Prop} {s : Shared} (h : wpAny M A t Q (fun _ _ => False) s) (hQ : ∀ a s, Q a s → Q' a s) : wpAny M A t Q' E s := wpAny_mono h hQ fun _ _ z => False.elim z

/-- the loop of a list comprehension's block, the target of any form (codeAny_compLoop_tests asks a target that no tuple goes to; statement and proof follow it, PyProof/CompMap.lean:41-61, with the step letOwnedTupleGo kept) -/
theorem compLoop_any {prog : Program} {w : World} {A : Around} {R : Result → Shared → Prop} {s : Shared} {elt target iter : Expr} {ifs : List Expr} {scope : Scope} {pos : Pos} {it acc : Value} {env : Env} (I : Nat → Shared → Prop)
    (turn : ∀ n s, I n s → wpAny (model prog w) A (pyNext it) (fun r s₁ => match r with
      | none => R (.ok .next) s₁
      | some v => wpAny (model prog w) A (letOwnedTupleGo target it v) (fun _ s₁' => wpAny (model prog w) A (assign target env v) (fun _ s₂ =>
          wpAny (model prog w) A (forIn ifs true fun c r => if r = true then do let ok ← isTrue c env (eval c env); pure (ForInStep.yield ok) else pure (ForInStep.yield r)) (fun ok s₃ =>
            if ok = true then wpAny (model prog w) A (eval elt env) (fun x s₄ =>
              wpAny (model prog w) A (call (.builtin "list.append") [acc, x]) (fun _ s₅ => ∃ m, m < n ∧ I m s₅) (notedBy (model prog w) A env fun e s' => R (.error e) s') s₄) (notedBy (model prog w) A env fun e s' => R (.error e) s') s₃
            else ∃ m, m < n ∧ I m s₃) (notedBy (model prog w) A env fun e s' => R (.error e) s') s₂) (notedBy (model prog w) A env fun e s' => R (.error e) s') s₁') (notedBy (model prog w) A env fun e s' => R (.error e) s') s₁) (notedBy (model prog w) A env fun e s' => R (.error e) s') s)
    (n : Nat) (h : I n s) :
    codeAny (model prog w) A (.compLoop (.ListComp elt [⟨target, iter, ifs, 0⟩] scope pos) 0 it acc env) R s := by
  refine codeAny_loop rfl I (fun n s hI => ?_) n h
  show wpAny _ A ((compTurn (.ListComp elt [⟨target, iter, ifs, 0⟩] scope pos) 0 it acc env).onRaise (fun x => do noteFrame x env; theTreesLotGoes x)) _ _ s
  refine wpAny_noted ?_
  rw [compTurn_list]
  refine wpAny_bind (wpAny_standAt (wpAny_bind (wpAny_mono (turn n s hI) (fun r s₁ h₁ => ?_) fun _ _ h' => h')))
  cases r with
  | none => exact wpAny_pure h₁
  | some v =>
    refine wpAny_bind (wpAny_mono h₁ (fun _ s₁' h₁' => ?_) fun _ _ h' => h')
    refine wpAny_bind (wpAny_mono h₁' (fun _ s₂ h₂ => wpAny_bind (wpAny_mono h₂ (fun ok s₃ h₃ => ?_) fun _ _ h' => h')) fun _ _ h' => h')
    cases ok with
    | false => exact wpAny_pure ⟨rfl, h₃⟩
    | true =>
      exact wpAny_bind (wpAny_bind (wpAny_mono h₃ (fun x s₄ h₄ => wpAny_bind (wpAny_mono h₄ (fun _ s₅ h₅ => wpAny_pure (wpAny_pure ⟨rfl, h₅⟩)) fun _ _ h' => h')) fun _ _ h' => h'))

section
variable {X : Cx}
/-- [elt for target in iter if ..]: D the new list; W by the turn and a measure, Nx what a turn is to reach -/
def tLc (wi : TI) (g : TG) (tt : TT) (te : TE) (vs : List Nat) : TE := fun σ H Q => wi σ H fun J H1 => ∀ D, H1 D = none → ∃ W : Nat → Nat → Hp → Prop, (∃ m, W 0 m (upd H1 D (.lst []))) ∧ ∀ i m H, W i m H →
  (J.stop i H ∧ Q (.ref D) H) ∨ (J.go i H ∧ ∃ Nx : Hp → Prop, (∀ H', Nx H' → ∃ m', m' < m ∧ W (i + 1) m' H') ∧ ∀ x H', J.yld i H x H' → g x (wipe σ vs) H' fun σ2 H2 => wipe σ2 vs = wipe σ vs ∧ tt σ2 H2 fun b H3 =>
    if b = true then te σ2 H3 fun y H4 => ∃ acc, H4 D = some (.lst acc) ∧ acc.length < sizeLine ∧ Nx (upd H4 D (.lst (acc ++ [y]))) else Nx H3)
theorem lc_core {pins : List (Addr × Obj)} {s : Shared} {σ : St} {H : Hp} {Q : VK} {elt tg iter : Expr} {ifs : List Expr} {scope : Scope} {own : List (Str × Nat)} {pos pos' : Pos} {wi : TI} {g : TG} {tt : TT} {te : TE} {use : Option (Value → Sem Unit)} {Qf : Value → Shared → Prop}
    (hc : X.calm = true) (hN : X.N.Nodup) (I : Inv X pins σ H s) (hi : PI X tg iter wi) (ok : BlkOk X.N X.env.scope scope own)
    (hg : ∀ (s : Shared) (H : Hp) (C : Addr) (cl : List (Str × Addr)) (fp : List Addr), PG (X.blk s H scope (compEnvC scope cl C X.env) fp) tg g) (ht : ∀ (s : Shared) (H : Hp) (C : Addr) (cl : List (Str × Addr)) (fp : List Addr), PTs (X.blk s H scope (compEnvC scope cl C X.env) fp) ifs tt)
    (he : ∀ (s : Shared) (H : Hp) (C : Addr) (cl : List (Str × Addr)) (fp : List Addr), PE (X.blk s H scope (compEnvC scope cl C X.env) fp) elt te) (hs : ∀ x, foldedSetIterable iter X.env x = pure x)
    (h : tLc wi g tt te (own.map (·.2)) σ H Q)
    (hRR : ∀ D C s' m H', Inv X pins σ H' s' → Q (.ref D) H' → s'.heap.Ns C m → FpOk X pins H' C → compPost (model X.prog X.w) X.A X.xe use Qf (.ref D) C (.ok .next) s') :
    wpAny (model X.prog X.w) X.A (comprehension (.ListComp elt [⟨tg, iter, ifs, 0⟩] scope pos) scope X.env pos' (newList []) false (eval iter X.env) use) Qf X.xe s := by
  have hfree : ∀ y ∈ scope.names, y.2 = .free → ∃ c, X.env.cells.lookup y.1 = some c := fun y hy e => by
    rcases ok.free y hy e with k | k
    · exact I.ok.has _ (.inl k)
    · exact I.ok.has _ (.inr k)
  refine wpAny_comprehension_free (use := use) rfl hs (closure_ok hfree) ok.kind (fun y hy e => by rw [ok.uniq y hy, e])
    (thn (hi pins s σ H _ I h) fun xv s1 hx => thn hx fun itv s2 h2 => ?_)
  obtain ⟨it, fp, tn, J, H2, e, I2, T, st2, f2, q⟩ := h2
  subst e
  refine wpAny_newObj_type (newEnv_comp ?_) (by show 0 ≤ sizeLine; decide)
  generalize hD : s2.heap.objs.size = D
  have hDn : H2 D = none := I2.hok.fresh (Nat.le_of_eq hD)
  obtain ⟨W, ⟨m0, w0⟩, turn⟩ := q D hDn
  -- the new list
  generalize hs3 : ({ s2 with heap := s2.heap.push { cls := .type "list", data := .seq ([] : List Value).toArray } } : Shared) = s3
  have I3 : Inv X pins σ (upd H2 D (.lst [])) s3 := by
    rw [← hs3]
    refine I2.laid (t' := s2.toks) (fun b o e => Heap.get?_push_of_some _ e) (Nat.le_of_eq hD) ⟨Nat.zero_le _, [], 0, .nil, ?_⟩
    rw [← hD]
    exact Heap.get?_push_size _ rfl
  have h3 : s3.heap = s2.heap.push { cls := .type "list", data := .seq ([] : List Value).toArray } := by rw [← hs3]
  have sz : ∀ b ∈ fp, b < s2.heap.objs.size := fun b hb => by
    obtain ⟨o, e, _⟩ := T.obj _ _ st2 b hb
    exact Heap.lt_size e
  have f3 : ∀ b ∈ fp, FpOk X pins (upd H2 D (.lst [])) b ∧ b < s3.heap.objs.size := fun b hb => by
    have hlt := sz b hb
    refine ⟨⟨?_, (f2 b hb).2⟩, by rw [h3, Heap.size_push]; exact Nat.lt_succ_of_lt hlt⟩
    rw [upd_ne (by rw [← hD]; exact Nat.ne_of_lt hlt)]
    exact (f2 b hb).1
  have st3 : tn 0 s3.heap := T.keep _ _ _ st2 fun b _ o e => by rw [h3]; exact Heap.get?_push_of_some _ e
  have I4 := block_start I3 ok hN f3
  have pg := hg s3 (upd H2 D (.lst [])) s3.heap.objs.size (cellsFrom (s3.heap.objs.size + 1) scope.names (cloFrom X.env.cells scope.names [])) fp
  have pt := ht s3 (upd H2 D (.lst [])) s3.heap.objs.size (cellsFrom (s3.heap.objs.size + 1) scope.names (cloFrom X.env.cells scope.names [])) fp
  have pe := he s3 (upd H2 D (.lst [])) s3.heap.objs.size (cellsFrom (s3.heap.objs.size + 1) scope.names (cloFrom X.env.cells scope.names [])) fp
  show codeAny _ _ (.compStart (.ListComp elt [⟨tg, iter, ifs, 0⟩] scope pos) 0 (.ref it) (.ref D) (compEnvC scope (cellsFrom (s3.heap.objs.size + 1) scope.names (cloFrom X.env.cells scope.names [])) s3.heap.objs.size X.env)) (compPost (model X.prog X.w) X.A X.xe use Qf (.ref D) s3.heap.objs.size) { s3 with heap := pushCells (s3.heap.push { cls := .type "dict", data := .dict #[] }) scope.names }
  have nfp : ∀ b ∈ fp, (upd H2 D (.lst [])) b = none := fun b hb => (f3 b hb).1.1
  generalize hce : compEnvC scope (cellsFrom (s3.heap.objs.size + 1) scope.names (cloFrom X.env.cells scope.names [])) s3.heap.objs.size X.env = ce at I4 pg pt pe ⊢
  have cL : ce.locals = s3.heap.objs.size := by subst hce; rfl
  generalize hH3 : upd H2 D (.lst []) = H3 at I3 I4 pg pt pe w0 nfp f3
  generalize hs4 : ({ s3 with heap := pushCells (s3.heap.push { cls := .type "dict", data := .dict #[] }) scope.names } : Shared) = s4 at I4 ⊢
  have st4 : tn 0 s4.heap := T.keep _ _ _ st3 fun b _ o e => by rw [← hs4]; exact pushCells_keeps _ _ _ _ (Heap.get?_push_of_some _ e)
  have stat : ∀ {σ' : St} {H' : Hp} {s' : Shared}, Inv (X.blk s3 H3 scope ce fp) [] σ' H' s' → (∀ b ∈ fp, H' b = none) → ∀ b ∈ fp, FpOk (X.blk s3 H3 scope ce fp) [] H' b := fun {σ' H' s'} I' hn b hb =>
    ⟨hn b hb, (I'.ok.exf b hb).1, I'.ok.exfs b hb, .inl hb, fun x c e => (I'.ok.exf b hb).2 x c e, fun p hp => absurd (show p ∈ ([] : List (Addr × Obj)) ++ [] from hp) (by simp)⟩
  have loop : codeAny (model X.prog X.w) X.A (.compLoop (.ListComp elt [⟨tg, iter, ifs, 0⟩] scope pos) 0 (.ref it) (.ref D) ce) (compPost (model X.prog X.w) X.A X.xe use Qf (.ref D) s3.heap.objs.size) s4 := by
    refine compLoop_any (fun n s' => ∃ i H', Inv (X.blk s3 H3 scope ce fp) [] (wipe σ (own.map (·.2))) H' s' ∧ tn i s'.heap ∧ (∀ b ∈ fp, H' b = none) ∧ W i n H') ?_ m0 ⟨0, H3, I4, st4, nfp, w0⟩
    rintro n s5 ⟨i, H5, I5, st5, n5, w5⟩
    rcases turn i n H5 w5 with ⟨stop, qq⟩ | ⟨go, Nx, hNx, step⟩
    · have td := T.done (X.blk s3 H3 scope ce fp) rfl rfl rfl hc i [] s5 _ H5 (fun _ _ => False) I5 (stat I5 n5) st5 stop
      refine thnF td fun r s6 ⟨hr, I6⟩ => ?_
      subst hr
      -- back in the def's context
      have I7 : Inv X pins σ H5 s6 := I3.call' (ch := fp) I6.os I6.base I6.hok I6.bare fun b hb => ⟨(f3 b hb).1.2.2.2.1, (f3 b hb).1.2.1, (f3 b hb).1.2.2.2.2.1, (f3 b hb).1.2.2.2.2.2⟩
      have nC : H5 s3.heap.objs.size = none := by
        have z : H5 ce.locals = none := I6.free
        rw [cL] at z
        exact z
      obtain ⟨m, hn, _⟩ := I6.loc
      have hn : s6.heap.Ns ce.locals m := hn
      rw [cL] at hn
      exact hRR D s3.heap.objs.size s6 m H5 I7 qq hn (I3.fpOk (Nat.le_refl _) nC)
    · have ti := T.item (X.blk s3 H3 scope ce fp) rfl rfl rfl hc i [] s5 _ H5 (fun _ _ => False) I5 (stat I5 n5) st5 go
      refine thnF ti fun r s6 ⟨u, hr, h6⟩ => ?_
      subst hr
      refine thnF h6 fun _ s7 ⟨x, H7, I7, r7, y7, st7, n7⟩ => ?_
      have I7' := I7.pinned (stat I7 n7) (T.obj _ _ st7)
      refine thnF (pg _ s7 _ H7 x u _ I7' r7 (step x H7 y7)) fun _ s8 ⟨σ8, H8, I8, hw8, q8⟩ => ?_
      refine thnF (pt _ s8 σ8 H8 _ I8 q8) fun b s9 ⟨H9, I9, q9⟩ => ?_
      -- the turn's end
      have fin : ∀ {s' : Shared} {H' : Hp}, Inv (X.blk s3 H3 scope ce fp) ([] ++ pinsAt fp s7.heap) σ8 H' s' → Nx H' → ∃ m, m < n ∧ ∃ i H', Inv (X.blk s3 H3 scope ce fp) [] (wipe σ (own.map (·.2))) H' s' ∧ tn i s'.heap ∧ (∀ b ∈ fp, H' b = none) ∧ W i m H' := fun {s' H'} I' nx => by
        obtain ⟨m', hm, w'⟩ := hNx H' nx
        have pin' : ∀ b ∈ fp, ∀ o, s7.heap.get? b = some o → s'.heap.get? b = some o ∧ H' b = none := fun b hb o e =>
          let z := I'.pin (b, o) (List.mem_append_right _ (List.mem_append_right _ (mem_pinsAt hb e)))
          ⟨z.1, z.2.1⟩
        have hl : (wipe σ (own.map (·.2))).length = σ8.length := by rw [← hw8, wipe_length]
        refine ⟨m', hm, i + 1, H', (I'.unpinned (pins := [])).weak hl (fun j v e => ?_), T.keep _ _ _ st7 fun b hb o e => (pin' b hb o e).1, fun b hb => ?_, w'⟩
        · rw [← hw8] at e
          exact (wipe_some e).1
        · obtain ⟨o, e, _⟩ := T.obj _ _ st7 b hb
          exact (pin' b hb o e).2
      cases b with
      | false =>
        simp only [Bool.false_eq_true, if_false] at q9 ⊢
        exact fin I9 q9
      | true =>
        simp only [if_true] at q9 ⊢
        refine thnF (pe _ s9 σ8 H9 _ I9 q9) fun z s10 ⟨yv, H10, I10, r10, acc, hD10, hz10, nx⟩ => ?_
        exact app_ok (X := X.blk s3 H3 scope ce fp) I10 hD10 hz10 r10 fun s11 I11 => fin I11 nx
  exact codeAny_compStart_list loop (T.self X.A 0 _ _ _ st4 loop)
/-- as a value -/
theorem pe_lc {elt tg iter : Expr} {ifs : List Expr} {scope : Scope} {own : List (Str × Nat)} {pos : Pos} {wi : TI} {g : TG} {tt : TT} {te : TE} (hc : X.calm = true) (hN : X.N.Nodup) (hi : PI X tg iter wi) (ok : BlkOk X.N X.env.scope scope own)
    (hg : ∀ (s : Shared) (H : Hp) (C : Addr) (cl : List (Str × Addr)) (fp : List Addr), PG (X.blk s H scope (compEnvC scope cl C X.env) fp) tg g) (ht : ∀ (s : Shared) (H : Hp) (C : Addr) (cl : List (Str × Addr)) (fp : List Addr), PTs (X.blk s H scope (compEnvC scope cl C X.env) fp) ifs tt)
    (he : ∀ (s : Shared) (H : Hp) (C : Addr) (cl : List (Str × Addr)) (fp : List Addr), PE (X.blk s H scope (compEnvC scope cl C X.env) fp) elt te) (hs : ∀ x, foldedSetIterable iter X.env x = pure x := by intro _; rfl) :
    PE X (.ListComp elt [⟨tg, iter, ifs, 0⟩] scope pos) (tLc wi g tt te (own.map (·.2))) := by
  intro pins s σ H Q I h
  rw [eval_ListComp]
  refine lc_core hc hN I hi ok hg ht he hs h fun D C s' m H' I' q hn f => ⟨m, hn, fun h'' sb => ?_⟩
  obtain ⟨f0, f1, f2, f3, f4, f5⟩ := f
  exact ⟨.ref D, H', I'.turned (t' := s'.toks) (fun b o hb e => (sb.2 b hb).trans e) f0 f1 f3 f4 f5, rfl, q⟩
end

/-! ### the forms one uses -/
/-- over a range: Pv by the turn and the heap (the new list at D within) -/
theorem lc_range {lo : Int} {n : Nat} {g : TG} {tt : TT} {te : TE} {vs : List Nat} {σ : St} {H1 : Hp} {D : Addr} {Qd : Hp → Prop} (Pv : Nat → Hp → Prop) (h0 : Pv 0 (upd H1 D (.lst [])))
    (hs : ∀ i H, i < n → Pv i H → g (.int (lo + i)) (wipe σ vs) H fun σ2 H2 => wipe σ2 vs = wipe σ vs ∧ tt σ2 H2 fun b H3 =>
      if b = true then te σ2 H3 fun y H4 => ∃ acc, H4 D = some (.lst acc) ∧ acc.length < sizeLine ∧ Pv (i + 1) (upd H4 D (.lst (acc ++ [y]))) else Pv (i + 1) H3) (hd : ∀ H, Pv n H → Qd H) :
    ∃ W : Nat → Nat → Hp → Prop, (∃ m, W 0 m (upd H1 D (.lst []))) ∧ ∀ i m H, W i m H →
      ((Itr lo n).stop i H ∧ Qd H) ∨ ((Itr lo n).go i H ∧ ∃ Nx : Hp → Prop, (∀ H', Nx H' → ∃ m', m' < m ∧ W (i + 1) m' H') ∧ ∀ x H', (Itr lo n).yld i H x H' → g x (wipe σ vs) H' fun σ2 H2 => wipe σ2 vs = wipe σ vs ∧ tt σ2 H2 fun b H3 =>
        if b = true then te σ2 H3 fun y H4 => ∃ acc, H4 D = some (.lst acc) ∧ acc.length < sizeLine ∧ Nx (upd H4 D (.lst (acc ++ [y]))) else Nx H3) := by
  refine ⟨fun i m H => m = n - i ∧ i ≤ n ∧ Pv i H, ⟨n, by simp, Nat.zero_le _, h0⟩, ?_⟩
  rintro i m H ⟨rfl, hi, p⟩
  by_cases hlt : i < n
  · refine .inr ⟨hlt, Pv (i + 1), fun H' p' => ⟨n - (i + 1), by omega, rfl, hlt, p'⟩, fun x H' y => ?_⟩
    obtain ⟨e, y⟩ := y
    subst e y
    exact hs i _ hlt p
  · have e : i = n := by omega
    subst e
    exact .inl ⟨Nat.le_refl _, hd H p⟩
def blkC (N : List Str) (sc scope : Scope) (own : List (Str × Nat)) : Bool :=
  (match scope.kind with | .function => true | _ => false) && (scope.names.all fun y => decide (scope.names.lookup y.1 = some y.2)) && (own.all fun p => decide (N[p.2]? = some p.1)) &&
    (scope.names.all fun y => match y.2 with
      | .free => (match sc.names.lookup y.1 with | some .cell => true | some .free => true | _ => false)
      | .local => decide (y.1 ∈ own.map (·.1)) || decide (y.1 ∉ N)
      | .cell => decide (y.1 ∈ own.map (·.1)) || decide (y.1 ∉ N)
      | _ => true)
theorem blkOk_by {N : List Str} {sc scope : Scope} {own : List (Str × Nat)} (h : blkC N sc scope own = true) : BlkOk N sc scope own := by
  unfold blkC at h
  simp only [Bool.and_eq_true, List.all_eq_true, decide_eq_true_eq] at h
  obtain ⟨⟨⟨h1, h2⟩, h3⟩, h4⟩ := h
  refine ⟨?_, h2, h3, fun y hy e => ?_, fun y hy e => ?_⟩
  · split at h1
    · assumption
    · cases h1
  · have q := h4 y hy
    simp only [e] at q
    split at q <;> first | exact .inl (by assumption) | exact .inr (by assumption) | cases q
  · have q := h4 y hy
    rcases e with e | e <;> (simp only [e, Bool.or_eq_true, decide_eq_true_eq] at q; exact q)
end L2

namespace L2
open PySem PySem.Spec PyProof.Rows

section
variable {prog : Program} {w : World} {A : Around} {R : Result → Shared → Prop} {s : Shared} {elt t0 i0 t1 i1 : Expr} {ifs0 ifs1 : List Expr} {scope : Scope} {pos : Pos} {it acc : Value} {env : Env}
end

section
variable {X : Cx}
end
end L2

namespace L2
open PySem PySem.Spec PyProof.Rows

/-! ### lists of pairs as tables -/
section
variable {κ : Type} [DecidableEq κ]
def valV (kvs : List (κ × V)) (k : κ) : Option V := (kvs.find? fun kv => decide (kv.1 = k)).map (·.2)
/-- in its place, or at the end -/
def putK (kvs : List (κ × V)) (k : κ) (v : V) : List (κ × V) :=
  if (kvs.any fun kv => decide (kv.1 = k)) = true then kvs.map (fun kv => if kv.1 = k then (kv.1, v) else kv) else kvs ++ [(k, v)]
def dropK (kvs : List (κ × V)) (k : κ) : List (κ × V) := kvs.filter fun kv => decide (kv.1 ≠ k)

theorem valV_pos {p : κ × V} {r : List (κ × V)} {k : κ} (e : p.1 = k) : valV (p :: r) k = some p.2 := by simp [valV, List.find?_cons, e]
theorem valV_neg {p : κ × V} {r : List (κ × V)} {k : κ} (e : ¬ p.1 = k) : valV (p :: r) k = valV r k := by simp [valV, List.find?_cons, e]
theorem valV_any (k : κ) : ∀ kvs : List (κ × V), (kvs.any fun kv => decide (kv.1 = k)) = (valV kvs k).isSome
  | [] => rfl
  | p :: r => by
    rw [List.any_cons]
    by_cases e : p.1 = k
    · simp only [valV_pos e, decide_eq_true e, Bool.true_or, Option.isSome_some]
    · rw [valV_neg e, decide_eq_false e, Bool.false_or]; exact valV_any k r
theorem length_putK (kvs : List (κ × V)) (k : κ) (v : V) : (putK kvs k v).length ≤ kvs.length + 1 := by
  unfold putK
  split
  · rw [List.length_map]; omega
  · rw [List.length_append, List.length_cons, List.length_nil]; omega
theorem RelO.isSome_eq {o : Option V} {u : Option Value} (r : RelO o u) : o.isSome = u.isSome := by
  cases o with
  | none => cases u with
    | none => rfl
    | some _ => exact (show False from r).elim
  | some _ => cases u with
    | none => exact (show False from r).elim
    | some _ => rfl
theorem RelO.getD {o : Option V} {u : Option Value} {d : V} {d' : Value} (r : RelO o u) (rd : RelV d d') : RelV (o.getD d) (u.getD d') := by
  cases o with
  | none => cases u with
    | none => exact rd
    | some _ => exact (show False from r).elim
  | some _ => cases u with
    | none => exact (show False from r).elim
    | some _ => exact r

/-- raw tables of the same keys -/
theorem KV.val {kvs : List (κ × V)} {vs : List (κ × Value)} (r : KV kvs vs) (k : κ) : RelO (valV kvs k) (valueAt vs k) := by
  unfold KV at r
  induction r with
  | nil => exact True.intro
  | @cons p q ps qs h t ih =>
    obtain ⟨h1, h2⟩ := h
    by_cases e : p.1 = k
    · have e' : q.1 = k := h1.symm.trans e
      have b : valueAt (q :: qs) k = some q.2 := by simp [valueAt, List.find?_cons, e']
      rw [valV_pos e, b]; exact h2
    · have e' : ¬ q.1 = k := fun z => e (h1.trans z)
      have b : valueAt (q :: qs) k = valueAt qs k := by simp [valueAt, List.find?_cons, e']
      rw [valV_neg e, b]; exact ih
theorem KV.any {kvs : List (κ × V)} {vs : List (κ × Value)} (r : KV kvs vs) (k : κ) : (kvs.any fun kv => decide (kv.1 = k)) = vs.any fun kv => decide (kv.1 = k) := by
  unfold KV at r
  induction r with
  | nil => rfl
  | cons h t ih => rw [List.any_cons, List.any_cons, ih, h.1]
theorem KV.repl {kvs : List (κ × V)} {vs : List (κ × Value)} (r : KV kvs vs) (k : κ) {y : V} {u : Value} (ry : RelV y u) :
    KV (kvs.map fun kv => if kv.1 = k then (kv.1, y) else kv) (vs.map fun kv => if kv.1 = k then (kv.1, u) else kv) := by
  unfold KV at r ⊢
  induction r with
  | nil => exact .nil
  | @cons p q ps qs h t ih =>
    rw [List.map_cons, List.map_cons]
    refine .cons ?_ ih
    obtain ⟨h1, h2⟩ := h
    by_cases e : p.1 = k
    · rw [if_pos e, if_pos (h1.symm.trans e)]; exact ⟨h1, ry⟩
    · rw [if_neg e, if_neg (fun z => e (h1.trans z))]; exact ⟨h1, h2⟩
theorem KV.put {kvs : List (κ × V)} {vs : List (κ × Value)} (r : KV kvs vs) (k : κ) {y : V} {u : Value} (ry : RelV y u) : KV (putK kvs k y) (stored vs k u) := by
  unfold putK stored
  rw [r.any k]
  by_cases e : (vs.any fun kv => decide (kv.1 = k)) = true
  · rw [if_pos e, if_pos e]; exact r.repl k ry
  · rw [if_neg e, if_neg e]; exact Paired.snoc r ⟨rfl, ry⟩
theorem KV.drop {kvs : List (κ × V)} {vs : List (κ × Value)} (r : KV kvs vs) (k : κ) : KV (dropK kvs k) (without vs k) := by
  unfold KV at r ⊢
  unfold dropK without
  induction r with
  | nil => exact .nil
  | @cons p q ps qs h t ih =>
    obtain ⟨h1, h2⟩ := h
    rw [List.filter_cons, List.filter_cons]
    by_cases e : p.1 = k
    · have a : ¬ decide (p.1 ≠ k) = true := by simp [e]
      have b : ¬ decide (q.1 ≠ k) = true := by simp [h1.symm.trans e]
      rw [if_neg a, if_neg b]; exact ih
    · have e' : ¬ q.1 = k := fun z => e (h1.trans z)
      have a : decide (p.1 ≠ k) = true := by simp [e]
      have b : decide (q.1 ≠ k) = true := by simp [e']
      rw [if_pos a, if_pos b]; exact .cons ⟨h1, h2⟩ ih
theorem KV.keys {kvs : List (κ × V)} {vs : List (κ × Value)} (r : KV kvs vs) : kvs.map (·.1) = vs.map (·.1) := by
  unfold KV at r
  induction r with
  | nil => rfl
  | cons h t ih => rw [List.map_cons, List.map_cons, ih, h.1]
theorem KV.length {kvs : List (κ × V)} {vs : List (κ × Value)} (r : KV kvs vs) : kvs.length = vs.length := Paired.length r
end


/-! ### a tracked dict, its keys ints and texts or tuples of these -/
theorem kV_is {P : Program} {w : World} {k : Key} {u : Value} (r : RelV (kV k) u) : (mixKind P w).is k u = true := by
  cases k with
  | inl i => obtain ⟨t, e⟩ := (show ∃ t, u = Value.int i t from r); subst e; exact mixKind_int P w i t
  | inr x => obtain ⟨t, e⟩ := (show ∃ t, u = Value.str x t from r); subst e; exact mixKind_str P w x t
theorem items_are {P : Program} {w : World} : ∀ {ks : List Key} {us : List Value}, Vals (ks.map kV) us → ItemsAre (mixKind P w) ks us
  | [], _, r => by rw [List.map_nil] at r; cases r; exact .nil
  | k :: ks, _, r => by
    rw [List.map_cons] at r
    cases r with
    | cons h t => exact .cons (kV_is h) (items_are t)

/-- raw entries of a dict with tuple keys -/
abbrev KT (H : Hp) : List (List Key × V) → List (List Key × Addr × Value) → Prop := Paired fun p q => p.1 = q.1 ∧ H q.2.1 = some (.tup (p.1.map kV)) ∧ RelV p.2 q.2.2
theorem KT.val {H : Hp} {kvs : List (List Key × V)} {xs : List (List Key × Addr × Value)} (r : KT H kvs xs) (k : List Key) : RelO (valV kvs k) ((atKey xs k).map (·.2)) := by
  induction r with
  | nil => exact True.intro
  | @cons p q ps qs h t ih =>
    obtain ⟨h1, _, h2⟩ := h
    by_cases e : p.1 = k
    · have e' : q.1 = k := h1.symm.trans e
      have b : atKey (q :: qs) k = some q.2 := by simp [atKey, List.find?_cons, e']
      rw [valV_pos e, b]; exact h2
    · have e' : ¬ q.1 = k := fun z => e (h1.trans z)
      have b : atKey (q :: qs) k = atKey qs k := by simp [atKey, List.find?_cons, e']
      rw [valV_neg e, b]; exact ih
theorem KT.repl {H : Hp} {kvs : List (List Key × V)} {xs : List (List Key × Addr × Value)} (r : KT H kvs xs) (k : List Key) {y : V} {u : Value} (ry : RelV y u) :
    KT H (kvs.map fun kv => if kv.1 = k then (kv.1, y) else kv) (xs.map (putAt k u)) := by
  induction r with
  | nil => exact .nil
  | @cons p q ps qs h t ih =>
    rw [List.map_cons, List.map_cons]
    refine .cons ?_ ih
    obtain ⟨h1, h2, h3⟩ := h
    unfold putAt
    by_cases e : p.1 = k
    · rw [if_pos e, if_pos (h1.symm.trans e)]; exact ⟨h1, h2, ry⟩
    · rw [if_neg e, if_neg (fun z => e (h1.trans z))]; exact ⟨h1, h2, h3⟩
theorem KT.put {H : Hp} {kvs : List (List Key × V)} {xs : List (List Key × Addr × Value)} (r : KT H kvs xs) (k : List Key) {b : Addr} {y : V} {u : Value} (hb : H b = some (.tup (k.map kV))) (ry : RelV y u) :
    KT H (putK kvs k y) (storedH xs k b u) := by
  have e : (kvs.any fun kv => decide (kv.1 = k)) = (atKey xs k).isSome := by
    rw [valV_any, (r.val k).isSome_eq, Option.isSome_map]
  unfold putK storedH
  rw [e]
  by_cases q : (atKey xs k).isSome = true
  · rw [if_pos q, if_pos q]; exact r.repl k ry
  · rw [if_neg q, if_neg q]; exact Paired.snoc r ⟨rfl, hb, ry⟩
theorem KT.keeps {H H' : Hp} {kvs : List (List Key × V)} {xs : List (List Key × Addr × Value)} (r : KT H kvs xs) (ht : ∀ b ys, H b = some (.tup ys) → H' b = some (.tup ys)) : KT H' kvs xs :=
  Paired.mapP r fun _ _ z => ⟨z.1, ht _ _ z.2.1, z.2.2⟩

section
variable {P : Program} {w : World} {H : Hp} {h : Heap} {a : Addr}
theorem rd_of {u : HO} (ok : HOk P w H h) (e : Rd H a u) : ObjOk P w H h a u := e.ok ok
theorem dk_rd {kvs : List (Key × V)} (ok : HOk P w H h) (e : Rd H a (.dK kvs)) : kvs.length ≤ sizeLine ∧ (a == sysModules) = false ∧ ∃ vs, KV kvs vs ∧ h.DictOf (mixKind P w) a vs :=
  show ObjOk P w H h a (.dK kvs) from rd_of ok e
theorem dk_of {kvs : List (Key × V)} (ok : HOk P w H h) (e : H a = some (.dK kvs)) : kvs.length ≤ sizeLine ∧ (a == sysModules) = false ∧ ∃ vs, KV kvs vs ∧ h.DictOf (mixKind P w) a vs := dk_rd ok (.inl e)
/-- a tracked tuple of ints and texts is a key -/
theorem key_of {ks : List Key} (ok : HOk P w H h) (e : H a = some (.tup (ks.map kV))) : (tupleKind (mixKind P w)).is h ks a := by
  obtain ⟨_, its, r, o, h1, h2, ⟨n, h3⟩, _⟩ := (show ObjOk P w H h a (.tup (ks.map kV)) from ok a _ e)
  exact ⟨o, its.toArray, n, h1, h2, h3, by simpa using items_are r⟩
theorem dt_rd {kvs : List (List Key × V)} (ok : HOk P w H h) (e : Rd H a (.dT kvs)) : kvs.length ≤ sizeLine ∧ (a == sysModules) = false ∧
    ∃ xs, KT H kvs xs ∧ h.DictOfH (tupleKind (mixKind P w)) a xs := by
  obtain ⟨z, y, xs, r, o, es, ep, h1, h2, h3, h4, h5⟩ := (show ObjOk P w H h a (.dT kvs) from rd_of ok e)
  refine ⟨z, y, xs, r, o, es, ep, h1, h2, h3, h4, fun x hx => ?_, h5⟩
  have all : ∀ {l : List (List Key × V)} {m : List (List Key × Addr × Value)}, KT H l m → ∀ x ∈ m, (tupleKind (mixKind P w)).is h x.1 x.2.1 := by
    intro l m q
    induction q with
    | nil => intro x hx; exact nomatch hx
    | @cons p q ps qs hq t ih =>
      intro x hx
      rcases List.mem_cons.mp hx with e | hx
      · subst e
        exact key_of ok (by rw [← hq.1]; exact hq.2.1)
      · exact ih x hx
  exact all r x hx
theorem dt_of {kvs : List (List Key × V)} (ok : HOk P w H h) (e : H a = some (.dT kvs)) : kvs.length ≤ sizeLine ∧ (a == sysModules) = false ∧
    ∃ xs, KT H kvs xs ∧ h.DictOfH (tupleKind (mixKind P w)) a xs := dt_rd ok (.inl e)
end

/-- what the dict at a holds at the key y -/
def DGet (H : Hp) (a : Addr) (y : V) (r : Option V) : Prop :=
  (∃ kvs k, Rd H a (.dK kvs) ∧ y = kV k ∧ r = valV kvs k) ∨ ∃ kvs k b, Rd H a (.dT kvs) ∧ y = .ref b ∧ H b = some (.tup (k.map kV)) ∧ r = valV kvs k
/-- the heap behind a[y] = v -/
def DPut (H : Hp) (a : Addr) (y v : V) (H' : Hp) : Prop :=
  (∃ kvs k, H a = some (.dK kvs) ∧ y = kV k ∧ kvs.length < sizeLine ∧ H' = upd H a (.dK (putK kvs k v))) ∨
  ∃ kvs k b, H a = some (.dT kvs) ∧ y = .ref b ∧ H b = some (.tup (k.map kV)) ∧ kvs.length < sizeLine ∧ H' = upd H a (.dT (putK kvs k v))
theorem DGet.k {H : Hp} {a : Addr} {kvs : List (Key × V)} {k : Key} (e : H a = some (.dK kvs)) : DGet H a (kV k) (valV kvs k) := .inl ⟨kvs, k, .inl e, rfl, rfl⟩
theorem DGet.t {H : Hp} {a b : Addr} {kvs : List (List Key × V)} {k : List Key} (e : H a = some (.dT kvs)) (eb : H b = some (.tup (k.map kV))) : DGet H a (.ref b) (valV kvs k) := .inr ⟨kvs, k, b, .inl e, rfl, eb, rfl⟩
theorem DPut.k {H : Hp} {a : Addr} {kvs : List (Key × V)} {k : Key} {v : V} (e : H a = some (.dK kvs)) (hl : kvs.length < sizeLine) : DPut H a (kV k) v (upd H a (.dK (putK kvs k v))) := .inl ⟨kvs, k, e, rfl, hl, rfl⟩
theorem DPut.t {H : Hp} {a b : Addr} {kvs : List (List Key × V)} {k : List Key} {v : V} (e : H a = some (.dT kvs)) (eb : H b = some (.tup (k.map kV))) (hl : kvs.length < sizeLine) :
    DPut H a (.ref b) v (upd H a (.dT (putK kvs k v))) := .inr ⟨kvs, k, b, e, rfl, eb, hl, rfl⟩


section
variable {X : Cx} {pins : List (Addr × Obj)} {σ : St} {H : Hp} {s : Shared} {a : Addr} {y v : V} {u r : Value} {o : Option V} {A : Around} {E : Value → Shared → Prop}

theorem Inv.big (I : Inv X pins σ H s) : sysModules < s.heap.objs.size := by
  have h : mainGlobals < s.heap.objs.size := (I.mod.glob.keeps I.bk).lt
  exact Nat.lt_trans (by decide) h

/-- d[y], there -/
theorem d_getItem {Q : Value → Shared → Prop} (hu : A.units + 1 < cLine) (I : Inv X pins σ H s) (g : DGet H a y (some v)) (ry : RelV y u) (h : ∀ w' s', Inv X pins σ H s' → RelV v w' → Q w' s') :
    wpAny (model X.prog X.w) A (getItem (.ref a) u) Q E s := by
  rcases g with ⟨kvs, k, e, ey, l⟩ | ⟨kvs, k, b, e, ey, eb, l⟩
  · subst ey
    obtain ⟨z, hd, vs, rel, dd⟩ := dk_rd I.hok e
    obtain ⟨w', hw, rw'⟩ := RelO.some_of (v := v) (o := valueAt vs k) (by rw [l]; exact rel.val k)
    exact wpAny_getItem_of (kV_is ry) dd.mapOf hw (h w' _ (I.tok _) rw')
  · subst ey
    cases (show u = Value.ref b from ry)
    obtain ⟨z, hd, xs, rel, dd⟩ := dt_rd I.hok e
    obtain ⟨w', hw, rw'⟩ := RelO.some_of (v := v) (o := (atKey xs k).map (·.2)) (by rw [l]; exact rel.val k)
    obtain ⟨p, hp, hp2⟩ := Option.map_eq_some_iff.mp hw
    refine wpAny_getItem_heap (tupleKind_room_in1 hu) (key_of I.hok eb) dd hp ?_
    rw [hp2]
    exact h w' _ (I.tok _) rw'
/-- a dict's object is replaced -/
theorem d_write {h' : Heap} {t' : Nat} {ob : HO} (I : Inv X pins σ H s) (mu : Mut (H a)) (hs : Heap.SameBut a s.heap h') (he : ∃ q, h'.get? a = some q) (new : ObjOk X.prog X.w (upd H a ob) h' a ob) :
    Inv X pins σ (upd H a ob) { s with heap := h', toks := t' } :=
  I.write (x := a) (e := a) mu (.inl rfl) (fun b q hb z => (hs.2 b hb).trans z) he new
theorem dk_new {P : Program} {w : World} {H' : Hp} {h' : Heap} {kvs : List (Key × V)} {vs : List (Key × Value)} (z : kvs.length ≤ sizeLine) (hd : (a == sysModules) = false) (rel : KV kvs vs) (dd : h'.DictOf (mixKind P w) a vs) :
    ObjOk P w H' h' a (.dK kvs) := ⟨z, hd, vs, rel, dd⟩
/-- d[y] = v -/
theorem d_setItem {H' : Hp} {Q : Unit → Shared → Prop} (hu : A.units + 1 < cLine) (I : Inv X pins σ H s) (g : DPut H a y v H') (ry : RelV y u) (rv : RelV v r) (h : ∀ s', Inv X pins σ H' s' → Q () s') :
    wpAny (model X.prog X.w) A (setItem (.ref a) u r) Q E s := by
  rcases g with ⟨kvs, k, e, ey, l, eH⟩ | ⟨kvs, k, b, e, ey, eb, l, eH⟩
  · subst ey eH
    obtain ⟨z, hd, vs, rel, dd⟩ := dk_of I.hok e
    have hz : vs.length ≤ sizeLine := by rw [← rel.length]; exact z
    have hl : (putK kvs k v).length ≤ sizeLine := by have := length_putK kvs k v; omega
    refine wpAny_setItem_pairs (hsz := hz) (kV_is ry) dd fun h' dd' hs => h _ ?_
    have he : ∃ q, h'.get? a = some q := let ⟨q, _, _, hq, _⟩ := dd'; ⟨q, hq⟩
    exact d_write I (by rw [e]; exact True.intro) hs he (dk_new hl hd (rel.put k rv) dd')
  · subst ey eH
    cases (show u = Value.ref b from ry)
    obtain ⟨z, hd, xs, rel, dd⟩ := dt_of I.hok e
    have hz : xs.length ≤ sizeLine := by rw [← Paired.length rel]; exact z
    have hl : (putK kvs k v).length ≤ sizeLine := by have := length_putK kvs k v; omega
    refine wpAny_setItem_heap (hsz := hz) (tupleKind_room_in1 hu) (key_of I.hok eb) dd fun h' dd' hs => h _ ?_
    obtain ⟨q, es, ep, hq, h2, h3, h4, _, h5⟩ := dd'
    refine d_write I (by rw [e]; exact True.intro) hs ⟨q, hq⟩ ⟨hl, hd, _, (rel.put k eb rv).keeps fun c ys ec => ?_, q, es, ep, hq, h2, h3, h4, h5⟩
    rw [upd_ne (ne_of ec e (fun z => nomatch z))]
    exact ec
end

section
variable {X : Cx} {pins : List (Addr × Obj)} {σ : St} {H : Hp} {s : Shared} {a : Addr} {kvs : List (Key × V)} {k : Key} {u : Value} {A : Around} {E : Value → Shared → Prop}
end


/-! ### readings and rules -/
/-- the element of a subscription, not a slice -/
def NoSl (i : Expr) : Prop := ∀ ov iv, subscripted i false ov iv = operate [ov, iv] (getItem ov iv)
theorem subD_of {prog : Program} {w : World} {A : Around} {E : Value → Shared → Prop} {s : Shared} {env : Env} {value slice : Expr} {pos : Pos} {T id : String} {Q : Value → Shared → Prop}
    (hl : typeLookup (.type T) "__getitem__" = pure (some (.builtin id))) (hs : NoSl slice)
    (h : wpAny (model prog w) A (eval value env) (fun o s₁ => wpAny (model prog w) A (eval slice env) (fun i s₂ => s₂.TypeIs o T ∧ wpAny (model prog w) A (getItem o i) Q E s₂) E s₁) E s) :
    wpAny (model prog w) A (eval (.Subscript value slice pos) env) Q E s := by
  refine Subscript_ (wpAny_mono h (fun o s₁ h₁ => wpAny_mono h₁ (fun i s₂ h₂ => ?_) fun _ _ x => x) fun _ _ x => x)
  obtain ⟨hT, h₂⟩ := h₂
  unfold subscriptTail
  refine wpAny_bind ?_
  rw [getitemInPython_of_ne hT.not_modules]
  refine wpAny_bind (wpAny_specialOf hT hl ?_)
  have fin : wpAny (model prog w) A (subscripted slice false o i) (fun r s₃ => wpAny (model prog w) A (letTemporaryGo value o r >>= fun _ => pure r) Q E s₃) E s₂ := by
    rw [hs o i]
    exact wpAny_operating (wpAny_mono h₂ (fun r s₃ h₃ => wpAny_bind (wpAny_letTemporaryGo (wpAny_pure h₃))) fun _ _ x => x)
  first
    | exact wpAny_pure (wpAny_bind fin)
    | exact wpAny_bind (wpAny_pure (wpAny_bind fin))
    | exact wpAny_bind fin

theorem dict_typeIs {X : Cx} {pins : List (Addr × Obj)} {σ : St} {H : Hp} {s : Shared} {a : Addr} {y : V} {o : Option V} (I : Inv X pins σ H s) (g : DGet H a y o) : s.TypeIs (.ref a) "dict" := by
  rcases g with ⟨kvs, k, e, _, _⟩ | ⟨kvs, k, b, e, _, _, _⟩
  · obtain ⟨_, _, vs, _, dd⟩ := dk_rd I.hok e
    exact dd.typeIs
  · obtain ⟨_, _, xs, _, dd⟩ := dt_rd I.hok e
    exact dd.typeIs
/-- d[y] -/
def tDGet (td ty : TE) : TE := fun σ H Q => td σ H fun x H1 => ty σ H1 fun y H2 => ∃ a v, x = .ref a ∧ DGet H2 a y (some v) ∧ Q v H2
/-- d[y] = v -/
def sDPut (td ty tv : TE) : TS := fun D σ H => tv σ H fun v H1 => td σ H1 fun x H2 => ty σ H2 fun y H3 => ∃ a H4, x = .ref a ∧ DPut H3 a y v H4 ∧ D.nx σ H4
section
variable {X : Cx} {o i e value : Expr} {pos pos' tpos : Pos} {td ty tv : TE}
theorem pe_dget (hu : X.A.units + 1 < cLine) (ho : PE X o td) (hi : PE X i ty) (hs : NoSl i) : PE X (.Subscript o i pos) (tDGet td ty) := by
  intro pins s σ H Q I h
  refine subD_of PySem.F.slot_dict_getitem.lookup hs (thn (ho pins s σ H _ I h) fun u s1 ⟨x, H1, I1, rx, q1⟩ => thn (hi pins s1 σ H1 _ I1 q1) fun iv s2 ⟨y, H2, I2, ry, a, v, ex, g, q2⟩ => ?_)
  subst ex
  obtain rfl : u = Value.ref a := rx
  exact ⟨dict_typeIs I2 g, d_getItem hu I2 g ry fun w' s3 I3 rw' => ⟨v, H2, I3, rw', q2⟩⟩
theorem ps_dput (hu : X.A.units + 1 < cLine) (ho : PE X o td) (hi : PE X i ty) (hv : PE X value tv) (hs : swapsWith value (some (.Subscript o i pos')) pos.line X.env = pure false) :
    PS X (.Assign [.Subscript o i pos'] value pos) (sDPut td ty tv) := by
  intro pins s σ H D I h
  refine wpAny_Assign_Subscript (thn (hv pins s σ H _ I h) fun r s1 ⟨v, H1, I1, rv, q1⟩ => thn (ho pins s1 σ H1 _ I1 q1) fun u s2 ⟨x, H2, I2, rx, q2⟩ => thn (hi pins s2 σ H2 _ I2 q2) fun iv s3 ⟨y, H3, I3, ry, a, H4, ex, g, q3⟩ => ?_) hs
  subst ex
  obtain rfl : u = Value.ref a := rx
  exact d_setItem hu I3 g ry rv fun s4 I4 => ⟨σ, H4, I4, q3⟩
end


/-! ### displays -/
theorem dt_empty {P : Program} {w : World} {H : Hp} (h : Heap) (hb : sysModules < h.objs.size) : ObjOk P w H (h.push { cls := .type "dict", data := .dict #[] }) h.objs.size (.dT []) :=
  ⟨Nat.zero_le _, beq_eq_false_iff_ne.mpr (Ne.symm (Nat.ne_of_lt hb)), [], .nil, _, #[], 0, Heap.get?_push_size _ rfl, ⟨rfl, rfl, rfl⟩, rfl, rfl, List.nodup_nil⟩
def tDNewT : TE := fun _ H Q => ∀ p, H p = none → Q (.ref p) (upd H p (.dT []))
section
variable {X : Cx} {pos : Pos}
theorem pe_dnewT : PE X (.Dict [] [] pos) tDNewT := fun pins s σ H Q I h =>
  wpAny_Dict_empty ⟨.ref s.heap.objs.size, _, I.laid (a := s.heap.objs.size) (o := .dT []) (t' := s.toks) (fun _ _ q => Heap.get?_push_of_some _ q) (Nat.le_refl _) (dt_empty s.heap I.big), rfl, h _ (I.hok.fresh (Nat.le_refl _))⟩
end

/-! ### methods -/
structure M2 (X : Cx) (o : Expr) (m : Str) (apos : Pos) (e f : Expr) (cpos : Pos) : Prop where
  base : attributeBase o m X.env (eval o X.env) = eval o X.env
  few : ((backTo cpos (starEach [e, f] X.env)).all (fun x => !x.1) && (backToKw cpos (keywordEach [] X.env)).all (fun x => x.1.isSome)
    && decide (([e, f] : List Expr).length + ([] : List Keyword).length + (if ([] : List Keyword).isEmpty then 0 else 1) < 30)) = true
  line : (apos.endLine == cpos.line) = true
  trees : backTo cpos (starEach [e, f] X.env) = [(false, eval e X.env), (false, eval f X.env)]

/-- a is a dict, whatever its keys -/
def IsD (H : Hp) (a : Addr) : Prop := (∃ kvs, Rd H a (.dK kvs)) ∨ ∃ kvs, Rd H a (.dT kvs)
theorem isD_at {X : Cx} {pins : List (Addr × Obj)} {σ : St} {H : Hp} {s : Shared} {a : Addr} (I : Inv X pins σ H s) (d : IsD H a) :
    s.TypeIs (.ref a) "dict" ∧ (∀ b, Value.ref a = .ref b → ∃ ob, s.heap.get? b = some ob ∧ ob.dict = none) ∧ (a == sysModules) = false := by
  rcases d with ⟨kvs, e⟩ | ⟨kvs, e⟩
  · obtain ⟨_, hd, vs, _, dd⟩ := dk_rd I.hok e
    refine ⟨dd.typeIs, fun b q => ?_, hd⟩
    cases q
    obtain ⟨ob, _, _, h1, h2, _⟩ := dd
    exact ⟨ob, h1, h2.2.1⟩
  · obtain ⟨_, hd, xs, _, dd⟩ := dt_rd I.hok e
    refine ⟨dd.typeIs, fun b q => ?_, hd⟩
    cases q
    obtain ⟨ob, _, _, h1, h2, _⟩ := dd
    exact ⟨ob, h1, h2.2.1⟩

section
variable {X : Cx} {pins : List (Addr × Obj)} {σ : St} {H : Hp} {s : Shared} {a : Addr} {y d : V} {u r : Value} {o : Option V} {A : Around} {E : Value → Shared → Prop}
/-- d.get(y, x) -/
theorem d_get2 {Q : Value → Shared → Prop} (hu : A.units + 1 < cLine) (I : Inv X pins σ H s) (g : DGet H a y o) (ry : RelV y u) (rd : RelV d r) (h : ∀ w' s', Inv X pins σ H s' → RelV (o.getD d) w' → Q w' s') :
    wpAny (model X.prog X.w) A (call (.builtin "dict.get") [.ref a, u, r]) Q E s := by
  rcases g with ⟨kvs, k, e, ey, l⟩ | ⟨kvs, k, b, e, ey, eb, l⟩
  · subst ey
    obtain ⟨z, hd, vs, rel, dd⟩ := dk_rd I.hok e
    refine call_meetsIn PySem.F.slot_dict_get dd.typeIs PySem.F.entry_dict_get (PySem.F.args_dict_get_3 _ _ _) (meets_dict_get_default (mixKind X.prog X.w) a (kV_is ry) hd r) ⟨_, dd.mapOf, h _ _ (I.tok _) ?_⟩
    rw [l]
    exact (rel.val k).getD rd
  · subst ey
    cases (show u = Value.ref b from ry)
    obtain ⟨z, hd, xs, rel, dd⟩ := dt_rd I.hok e
    refine call_meetsIn PySem.F.slot_dict_get dd.typeIs PySem.F.entry_dict_get (PySem.F.args_dict_get_3 _ _ _) (meetsH_dict_get_default (tupleKind (mixKind X.prog X.w)) a b hd r) ⟨tupleKind_room_in1 hu, k, xs, key_of I.hok eb, dd, h _ _ (I.tok _) ?_⟩
    rw [l]
    exact (rel.val k).getD rd
end

def tDGet2 (td ty tx : TE) : TE := fun σ H Q => td σ H fun x H1 => ∃ a, x = .ref a ∧ IsD H1 a ∧ ty σ H1 fun y H2 => tx σ H2 fun z H3 => ∃ o, DGet H3 a y o ∧ Q (o.getD z) H3
section
variable {X : Cx} {o e f : Expr} {apos cpos : Pos} {td ty tx : TE}
theorem pe_dget2 (hu : X.A.units + 1 < cLine) (ho : PE X o td) (he : PE X e ty) (hf : PE X f tx) (m : M2 X o "get" apos e f cpos) : PE X (.Call (.Attribute o "get" apos) [e, f] [] cpos) (tDGet2 td ty tx) := by
  intro pins s σ H Q I h
  refine wpAny_Call_method m.base m.few m.line PySem.F.plainAttrs_dict PySem.F.slot_dict_get PySem.F.type_dict_get (thn (ho pins s σ H _ I h) fun u s1 ⟨x, H1, I1, rx, a, ex, d, q1⟩ => ?_)
  subst ex
  obtain rfl : u = Value.ref a := rx
  obtain ⟨t1, t2, _⟩ := isD_at I1 d
  refine ⟨t1, t2, ?_⟩
  rw [m.trees]
  refine Calls.callWith_builtin rfl (Calls.evalArgs_plain (Calls.spliced_cons (thn (he pins s1 σ H1 _ I1 q1) fun iv s2 ⟨y, H2, I2, ry, q2⟩ =>
    Calls.spliced_cons (thn (hf pins s2 σ H2 _ I2 q2) fun fv s3 ⟨z, H3, I3, rz, ov, g, q3⟩ => Calls.spliced_nil ?_))))
  exact d_get2 hu I3 g ry rz fun w' s4 I4 rw' => ⟨_, H3, I4, rw', q3⟩
end

/-! ### dict(d): a copy -/
section
variable {X : Cx} {pins : List (Addr × Obj)} {σ : St} {H : Hp} {s : Shared} {a : Addr} {kvs : List (Key × V)} {A : Around} {E : Value → Shared → Prop}
end


section
variable {X : Cx} {pins : List (Addr × Obj)} {σ : St} {H : Hp} {s : Shared} {a : Addr} {y : V} {u : Value} {A : Around} {E : Value → Shared → Prop}
end
end L2

namespace L2
open PySem PySem.Spec PyProof.Rows

section
variable {prog : Program} {w : World} {A : Around} {E : Value → Shared → Prop}
end

section
variable {X : Cx}
end
end L2

namespace L2
open PySem PySem.Spec PyProof.Rows

section
variable {X : Cx} {pins : List (Addr × Obj)} {σ : St} {H : Hp} {s : Shared} {h' : Heap}
/-! ### locking a thing while a statement runs -/
theorem Inv.lock {d : Addr} {u : HO} (I : Inv X pins σ H s) (h : H d = some u) (mu : Mut (some u)) : ∃ od, Inv X pins σ (upd H d (.frz od u)) s := by
  have x := I.hok d u h
  have ex : ∃ od, s.heap.get? d = some od := by
    cases u with
    | lst xs => obtain ⟨_, _, _, _, e⟩ := x; exact ⟨_, e⟩
    | dK kvs => obtain ⟨_, _, _, _, o, _, _, e, _⟩ := x; exact ⟨o, e⟩
    | dT kvs => obtain ⟨_, _, _, _, o, _, _, e, _⟩ := x; exact ⟨o, e⟩
    | set S n => obtain ⟨o, _, _, _, e, _⟩ := x; exact ⟨o, e⟩
    | ins C dx fs => obtain ⟨_, _, _, e, _⟩ := x; exact ⟨_, e⟩
    | ext φ => obtain ⟨_, ⟨_, e⟩, _⟩ := x; exact ⟨_, e⟩
    | _ => exact False.elim mu
  obtain ⟨od, e⟩ := ex
  have new : ObjOk X.prog X.w (upd H d (.frz od u)) s.heap d (.frz od u) := by
    refine ⟨e, x.stay (fun b v _ q => q) (fun b q => ?_) fun b xs q => ?_⟩
    · rw [upd_ne (fun z => by rw [z, h] at q; cases q; exact mu)]; exact q
    · rw [upd_ne (fun z => by rw [z, h] at q; cases q; exact mu)]; exact q
  exact ⟨od, I.write (x := d) (e := d) (t' := s.toks) (h' := s.heap) (by rw [h]; exact mu) (.inl rfl) (fun b v _ q => q) ⟨od, e⟩ new⟩
theorem Inv.nofrz {d : Addr} {u : HO} (I : Inv X pins σ H s) (h : H d = some u) (mu : Mut (some u)) : ∀ o' u', X.H_0 d ≠ some (.frz o' u') := fun o' u' e => by
  have q := I.base.frzs d o' u' e
  rw [h] at q
  cases q
  exact mu
theorem Inv.unlock {d : Addr} {od : Obj} {u : HO} (I : Inv X pins σ H s) (h : H d = some (.frz od u)) (hn : ∀ o' u', X.H_0 d ≠ some (.frz o' u')) : Inv X pins σ (upd H d u) s := by
  have neH : ∀ b o, H b = some o → (∀ o' u', o ≠ .frz o' u') → b ≠ d := fun b o e hne z => by
    rw [z, h] at e
    cases e
    exact hne _ _ rfl
  have neN : ∀ b, H b = none → b ≠ d := fun b e z => by rw [z, h] at e; cases e
  refine ⟨I.ok, I.os, I.bare, ⟨I.base.keep, I.base.slot, fun b o e n hx => ?_, I.base.there, fun b xs e => ?_, fun b o x e => ?_, fun b ps e => ?_⟩, I.loc, I.cell, ?_, fun x c e => ?_, fun p hp => ?_, fun b o e => ?_, I.len⟩
  · rw [upd_ne (neN b (I.base.free b o e n hx))]; exact I.base.free b o e n hx
  · have q := I.base.tups b xs e
    rw [upd_ne (neH b _ q (fun _ _ z => nomatch z))]; exact q
  · have q := I.base.frzs b o x e
    rw [upd_ne (fun z => by rw [z] at e; exact hn _ _ e)]; exact q
  · obtain ⟨m, q⟩ := I.base.tbls b ps e
    exact ⟨m, by rw [upd_ne (neH b _ q (fun _ _ z => nomatch z))]; exact q⟩
  · rw [upd_ne (neN _ I.free)]; exact I.free
  · rw [upd_ne (neN c (I.freeC x c e))]; exact I.freeC x c e
  · obtain ⟨e, n, r⟩ := I.pin p hp
    exact ⟨e, by rw [upd_ne (neN _ n)]; exact n, r⟩
  · by_cases hb : b = d
    · rw [hb, upd_same] at e
      cases e
      rw [hb]
      obtain ⟨_, x⟩ := I.hok d _ h
      exact x.stay (fun c v _ q => q) (fun c q => by rw [upd_ne (neH c _ q (fun _ _ z => nomatch z))]; exact q) fun c xs q => by rw [upd_ne (neH c _ q (fun _ _ z => nomatch z))]; exact q
    · rw [upd_ne hb] at e
      exact (I.hok b o e).stay (fun c v _ q => q) (fun c q => by rw [upd_ne (neH c _ q (fun _ _ z => nomatch z))]; exact q) fun c xs q => by rw [upd_ne (neH c _ q (fun _ _ z => nomatch z))]; exact q
end
/-- the statement runs while the thing at d is locked (read, not written); d and what stands there are the reading's choice -/
def tLock (t : TS) : TS := fun D σ H => ∃ d u, H d = some u ∧ Mut (some u) ∧ ∀ od, t ⟨fun σ' H' => H' d = some (.frz od u) ∧ D.nx σ' (upd H' d u), fun v H' => H' d = some (.frz od u) ∧ D.rt v (upd H' d u), fun σ' H' => H' d = some (.frz od u) ∧ D.bk σ' (upd H' d u), fun σ' H' => H' d = some (.frz od u) ∧ D.ct σ' (upd H' d u)⟩ σ (upd H d (.frz od u))
def tLockE (t : TE) : TE := fun σ H Q => ∃ d u, H d = some u ∧ Mut (some u) ∧ ∀ od, t σ (upd H d (.frz od u)) fun v H' => H' d = some (.frz od u) ∧ Q v (upd H' d u)
section
variable {X : Cx}
theorem ps_lock {st : Stmt} {t : TS} (h : PS X st t) : PS X st (tLock t) := by
  intro pins s σ H D I hw
  obtain ⟨d, u, hd, mu, hw⟩ := hw
  obtain ⟨od, I1⟩ := I.lock hd mu
  refine thn (h pins s σ _ _ I1 (hw od)) fun f s1 q => ?_
  cases f with
  | next => obtain ⟨σ', H', I2, e, q⟩ := q; exact ⟨σ', _, I2.unlock e (I.nofrz hd mu), q⟩
  | brk => obtain ⟨σ', H', I2, e, q⟩ := q; exact ⟨σ', _, I2.unlock e (I.nofrz hd mu), q⟩
  | cont => obtain ⟨σ', H', I2, e, q⟩ := q; exact ⟨σ', _, I2.unlock e (I.nofrz hd mu), q⟩
  | ret v => obtain ⟨x, σ', H', I2, r, e, q⟩ := q; exact ⟨x, σ', _, I2.unlock e (I.nofrz hd mu), r, q⟩
theorem pe_lock {e : Expr} {t : TE} (h : PE X e t) : PE X e (tLockE t) := by
  intro pins s σ H Q I hw
  obtain ⟨d, u, hd, mu, hw⟩ := hw
  obtain ⟨od, I1⟩ := I.lock hd mu
  refine thn (h pins s σ _ _ I1 (hw od)) fun v s1 ⟨x, H1, I2, r, e2, q⟩ => ?_
  exact ⟨x, _, I2.unlock e2 (I.nofrz hd mu), r, q⟩

/-! ### one iterator just laid -/
theorem pi_one {tg : Expr} {pins : List (Addr × Obj)} {σ : St} {H : Hp} {s : Shared} {R : It → Hp → Prop} {J : It} {tn : Nat → Heap → Prop} {tk : Nat} (I : Inv X pins σ H s) (o : Obj)
    (T : Turn X.prog X.w X.K tg J [s.heap.objs.size] s.heap.objs.size tn) (st : tn 0 (s.heap.push o)) (q : R J H) : PIE X pins σ tg R (.ref s.heap.objs.size) { s with heap := s.heap.push o, toks := tk } := by
  refine ⟨s.heap.objs.size, [s.heap.objs.size], tn, J, H, rfl, I.kept fun b ob e => Heap.get?_push_of_some _ e, T, st, fun b hb => ?_, q⟩
  have e : b = s.heap.objs.size := by simpa using hb
  subst e
  exact I.fpOk (Nat.le_refl _) (I.hok.fresh (Nat.le_refl _))
end

/-! ### range with a step -/
section
variable {X : Cx} {tg : Expr}
end
/-! ### reversed(list) -/
section
variable {X : Cx} {tg : Expr}
end

/-! ### a str -/
/-! ### a dict's keys: any dict's entries -/
section
variable {prog : Program} {w : World} {A : Around} {E : Value → Shared → Prop} {s : Shared}
theorem iter_keys {d : Addr} {o : Obj} {es : Array DictEntry} {ep : Nat} {Q : Value → Shared → Prop} (hd : (d == sysModules) = false) (ho : s.heap.get? d = some o) (hc : o.ExactDict) (hdat : o.data = .dict es ep)
    (hQ : Q (.ref s.heap.objs.size) { s with heap := s.heap.push { cls := .type "dict_keyiterator", data := .fields #[.ref d, .int 0 0, .int es.size 0, .int ep 0] } }) :
    wpAny (model prog w) A (pyIter (.ref d)) Q E s := by
  have hT : s.TypeIs (.ref d) "dict" := ⟨o, ho, hc.1⟩
  refine wpAny_pyIter_slot hT F.slot_dict_iter (wpAny_call_entry F.slot_dict_iter hT F.entry_dict_iter ?_ (F.args_dict_iter_1 _))
  unfold Builtin.«dict.__iter__»
  refine wpAny_bind ?_
  unfold Builtin.Dict.dictSlotNone
  refine wpAny_bind (wpAny_notOrdered_dict hT ?_)
  show wpAny _ _ (pure (Value.ref d)) _ _ s
  refine wpAny_pure ?_
  show wpAny _ _ (Builtin.Dict.showsAll d >>= _) _ _ s
  unfold Builtin.Dict.showsAll
  rw [if_neg (by rw [hd]; exact Bool.false_ne_true)]
  refine wpAny_bind (wpAny_pure ?_)
  refine wpAny_bind (wpAny_dictEntries ho hdat ?_)
  refine wpAny_bind (wpAny_dictEpoch ho hdat ?_)
  refine wpAny_bind (wpAny_newObj_type (wpAny_pure ⟨_, rfl, "dict_keyiterator", _, ⟨_, Heap.get?_push_size _ rfl, rfl⟩, F.slot_dict_keyiterator_next.lookup, ?_⟩))
  simpa [rawInt] using hQ
theorem next_key_item {it d : Addr} {i n ep : Nat} {od : Obj} {es : Array DictEntry} {en : DictEntry} {Q : Option Value → Shared → Prop} (hit : s.heap.IsKeyIter it d i n ep) (hod : s.heap.get? d = some od) (hdd : od.data = .dict es ep)
    (hsz : es.size = n) (hx : es[i]? = some en) (hQ : ∀ h', h'.IsKeyIter it d (i + 1) n ep → Heap.SameBut it s.heap h' → Q (some en.key) { s with heap := h' }) : wpAny (model prog w) A (pyNext (.ref it)) Q E s := by
  obtain ⟨o, ho, hc, hd⟩ := id hit
  unfold pyNext
  refine wpAny_bind (wpAny_attempt (wpAny_callSpecial?_slot (name := Str.ofString "__next__") hit.typeIs F.slot_dict_keyiterator_next
    (wpAny_call_entry F.slot_dict_keyiterator_next hit.typeIs F.entry_dict_keyiterator_next ?_ (F.args_dict_keyiterator_next_1 _))))
  refine wpAny_bind (wpAny_pure ?_)
  refine wpAny_bind ?_
  refine wpAny_bind ?_
  first | refine wpAny_bind (wpAny_typeNameOfWhole_keyiter hit.typeIs (wpAny_pure ?_)) | refine wpAny_bind (wpAny_typeNameOf_keyiter hit.typeIs (wpAny_pure ?_))
  refine wpAny_bind (wpAny_fieldsOf ho hd ?_)
  have hown : Builtin.Dict_items.ownsTuple "dict_keyiterator" = false := by decide
  simp only [hown, Bool.false_eq_true, if_false]
  show wpAny _ _ (if (Value.ref d == Value.none) = true then _ else _) _ _ s
  rw [if_neg (show ¬ ((Value.ref d == Value.none) = true) from Bool.false_ne_true)]
  refine wpAny_bind (wpAny_pure ?_)
  refine wpAny_bind (wpAny_dictEntries hod hdd ?_)
  rw [if_neg (by rw [hsz]; simp)]
  refine wpAny_bind (wpAny_pure ?_)
  refine wpAny_bind (wpAny_dictEpoch hod hdd ?_)
  rw [if_neg (by simp)]
  refine wpAny_pure ?_
  obtain ⟨hlt', hen⟩ := Array.getElem?_eq_some_iff.mp hx
  simp only [show ¬ ((i : Int) < 0) from by omega, if_false, Int.toNat_natCast, Array.getElem?_eq_getElem hlt']
  refine wpAny_bind ?_
  first | refine wpAny_bind (wpAny_typeNameOfWhole_keyiter hit.typeIs (wpAny_pure ?_)) | refine wpAny_bind (wpAny_typeNameOf_keyiter hit.typeIs (wpAny_pure ?_))
  refine wpAny_bind (wpAny_isOneOf_keyiter hit.typeIs ?_)
  show wpAny _ _ (setField (.ref it) 1 (rawInt ((i : Int) + 1)) >>= _) _ _ s
  refine wpAny_bind (wpAny_setField ho hd (by simp) ?_)
  have hit' : (s.heap.update it (Obj.mapFields (·.setIfInBounds 1 (rawInt ((i : Int) + 1))))).IsKeyIter it d (i + 1) n ep :=
    ⟨_, Heap.get?_update_self _ ho (Obj.isFreed_of_fields (Obj.data_mapFields hd _)), (Obj.cls_mapFields ..).trans hc, by rw [Obj.data_mapFields hd]; simp [rawInt]⟩
  refine wpAny_bind (wpAny_holding ?_)
  refine wpAny_bind (wpAny_isOneOf_keyiter (s := { s with heap := s.heap.update it (Obj.mapFields (·.setIfInBounds 1 (rawInt ((i : Int) + 1)))) }) hit'.typeIs ?_)
  show wpAny _ _ (pure es[i].key) _ _ _
  rw [hen]
  exact wpAny_pure (wpAny_pure ⟨_, rfl, wpAny_pure (hQ _ hit' (Heap.SameBut.update ..))⟩)
theorem next_key_end {it d : Addr} {i n ep : Nat} {od : Obj} {es : Array DictEntry} {Q : Option Value → Shared → Prop} (hh : A.handled = none) (hit : s.heap.IsKeyIter it d i n ep) (hod : s.heap.get? d = some od) (hdd : od.data = .dict es ep)
    (hsz : es.size = n) (hge : n ≤ i) (hQ : ∀ h', Heap.ExtBut it s.heap h' → Q none { s with heap := h' }) : wpAny (model prog w) A (pyNext (.ref it)) Q E s := by
  obtain ⟨o, ho, hc, hd⟩ := id hit
  unfold pyNext
  refine wpAny_bind (wpAny_attempt (wpAny_callSpecial?_slot (name := Str.ofString "__next__") hit.typeIs F.slot_dict_keyiterator_next
    (wpAny_call_entry F.slot_dict_keyiterator_next hit.typeIs F.entry_dict_keyiterator_next ?_ (F.args_dict_keyiterator_next_1 _))))
  refine wpAny_bind (wpAny_pure ?_)
  refine wpAny_bind ?_
  refine wpAny_bind ?_
  first | refine wpAny_bind (wpAny_typeNameOfWhole_keyiter hit.typeIs (wpAny_pure ?_)) | refine wpAny_bind (wpAny_typeNameOf_keyiter hit.typeIs (wpAny_pure ?_))
  refine wpAny_bind (wpAny_fieldsOf ho hd ?_)
  have hown : Builtin.Dict_items.ownsTuple "dict_keyiterator" = false := by decide
  simp only [hown, Bool.false_eq_true, if_false]
  show wpAny _ _ (if (Value.ref d == Value.none) = true then _ else _) _ _ s
  rw [if_neg (show ¬ ((Value.ref d == Value.none) = true) from Bool.false_ne_true)]
  refine wpAny_bind (wpAny_pure ?_)
  refine wpAny_bind (wpAny_dictEntries hod hdd ?_)
  rw [if_neg (by rw [hsz]; simp)]
  refine wpAny_bind (wpAny_pure ?_)
  refine wpAny_bind (wpAny_dictEpoch hod hdd ?_)
  rw [if_neg (by simp)]
  refine wpAny_pure ?_
  have hge' : es.size ≤ i := by rw [hsz]; exact hge
  simp only [show ¬ ((i : Int) < 0) from by omega, if_false, Int.toNat_natCast, Array.getElem?_eq_none hge']
  refine wpAny_bind ?_
  first | refine wpAny_bind (wpAny_typeNameOfWhole_keyiter hit.typeIs (wpAny_pure ?_)) | refine wpAny_bind (wpAny_typeNameOf_keyiter hit.typeIs (wpAny_pure ?_))
  show wpAny _ _ (setField (.ref it) 0 .none >>= _) _ _ s
  refine wpAny_bind (wpAny_setField ho hd (by simp) ?_)
  show wpAny _ _ (newExc (.type "StopIteration") [] >>= _) _ _ _
  refine wpAny_bind ?_
  simp only [newExc, newTuple]
  refine wpAny_bind (wpAny_newObj_type ?_ (by size_fits))
  refine wpAny_bind (m := firstArgMember _ _) (wpAny_of_eq (a := Value.none) (by first | rfl | (simp only [firstArgMember]; rfl)) ?_)
  refine wpAny_newObj_type ?_ (by size_fits)
  simp only [raiseNew]
  refine wpAny_bind (wpAny_handled ?_)
  rw [show A.in1.handled = none from hh]
  refine wpAny_bind (wpAny_pure (wpAny_throw ?_))
  refine wpAny_bind (wpAny_isInstance (T := "StopIteration") (b := true) ⟨_, Heap.get?_push_size _ rfl, rfl⟩ isSubtype_stop ?_)
  exact wpAny_pure (hQ _ (((Heap.SameBut.update ..).extBut.push _).push _))
end

/-! ### a locked dict -/
theorem kv_get {κ : Type} {kvs : List (κ × V)} {vs : List (κ × Value)} (h : KV kvs vs) : ∀ {i : Nat} {k : κ} {v : V}, kvs[i]? = some (k, v) → ∃ u, vs[i]? = some (k, u) ∧ RelV v u := by
  unfold KV at h
  induction h with
  | nil => intro i k v e; simp at e
  | @cons a b l₁ l₂ r t ih =>
    intro i k v e
    cases i with
    | zero =>
      simp only [List.getElem?_cons_zero, Option.some.injEq] at e
      subst e
      refine ⟨b.2, ?_, r.2⟩
      simp only [List.getElem?_cons_zero]
      exact congrArg some (Prod.ext r.1.symm rfl)
    | succ j =>
      simp only [List.getElem?_cons_succ] at e ⊢
      exact ih e
theorem paired_get {α β : Type} {G : α → β → Prop} {l₁ : List α} {l₂ : List β} (h : Paired G l₁ l₂) : ∀ {i : Nat} {a : α}, l₁[i]? = some a → ∃ b, l₂[i]? = some b ∧ G a b := by
  induction h with
  | nil => intro i a e; simp at e
  | @cons a b l₁ l₂ r t ih =>
    intro i a' e
    cases i with
    | zero =>
      simp only [List.getElem?_cons_zero, Option.some.injEq] at e
      subst e
      exact ⟨b, rfl, r⟩
    | succ j =>
      simp only [List.getElem?_cons_succ] at e ⊢
      exact ih e
theorem relV_key {k : Key} {u : Value} (h : keyIs k u = true) : RelV (kV k) u := by
  rcases keyIs_shape h with ⟨i, t, rfl, rfl⟩ | ⟨x, t, rfl, rfl⟩
  · exact ⟨t, rfl⟩
  · exact ⟨t, rfl⟩
section
variable {X : Cx} {pins : List (Addr × Obj)} {σ : St} {H : Hp} {s : Shared} {d : Addr} {o : Obj}
theorem Inv.frzK {kvs : List (Key × V)} (I : Inv X pins σ H s) (h : H d = some (.frz o (.dK kvs))) :
    (d == sysModules) = false ∧ s.heap.get? d = some o ∧ o.ExactDict ∧ ∃ (es : Array DictEntry) (ep : Nat) (vs : List (Key × Value)), o.data = .dict es ep ∧ es.size = kvs.length ∧ KV kvs vs ∧ s.heap.DictAt (mixKind X.prog X.w) d vs ep := by
  obtain ⟨hd, z, hs, vs, kv, o', es, ep, ho, hx, hdt, r⟩ := I.hok d _ h
  rw [hd] at ho
  cases ho
  refine ⟨hs, hd, hx, es, ep, vs, hdt, ?_, kv, o, es, hd, hx, hdt, r⟩
  have l1 := r.2.1.length
  have l2 : kvs.length = vs.length := Paired.length kv
  rw [Array.length_toList] at l1
  omega
/-- the same for tuple keys -/
theorem Inv.frzT {kvs : List (List Key × V)} (I : Inv X pins σ H s) (h : H d = some (.frz o (.dT kvs))) :
    (d == sysModules) = false ∧ s.heap.get? d = some o ∧ o.ExactDict ∧ ∃ (es : Array DictEntry) (ep : Nat), o.data = .dict es ep ∧ es.size = kvs.length ∧
      ∀ (i : Nat) (k : List Key) (v : V), kvs[i]? = some (k, v) → ∃ (en : DictEntry) (q : Addr), es[i]? = some en ∧ en.key = .ref q ∧ H q = some (.tup (k.map kV)) := by
  obtain ⟨hd, z, hs, xs, pr, o', es, ep, ho, hx, hdt, he, _⟩ := I.hok d _ h
  rw [hd] at ho
  cases ho
  refine ⟨hs, hd, hx, es, ep, hdt, ?_, fun i k v e => ?_⟩
  · have l1 : es.size = xs.length := size_of_entries he
    have l2 : kvs.length = xs.length := Paired.length pr
    omega
  · obtain ⟨b, hb, e1, e2, _⟩ := paired_get pr e
    have q := entry_at he i
    rw [hb] at q
    exact ⟨_, b.2.1, q, rfl, e2⟩
end

/-- the keys of the locked dict at d, in their order -/
def Itk (d : Addr) (o : Obj) (kvs : List (Key × V)) : It :=
  ⟨fun i H => H d = some (.frz o (.dK kvs)) ∧ i < kvs.length, fun i H x H' => H' = H ∧ ∃ k v, kvs[i]? = some (k, v) ∧ x = kV k, fun i H => H d = some (.frz o (.dK kvs)) ∧ kvs.length ≤ i⟩
/-- .. of tuple keys: the key's own tuple -/
def Itkt (d : Addr) (o : Obj) (kvs : List (List Key × V)) : It :=
  ⟨fun i H => H d = some (.frz o (.dT kvs)) ∧ i < kvs.length, fun i H x H' => H' = H ∧ ∃ (k : List Key) (v : V) (q : Addr), kvs[i]? = some (k, v) ∧ x = .ref q ∧ H q = some (.tup (k.map kV)), fun i H => H d = some (.frz o (.dT kvs)) ∧ kvs.length ≤ i⟩
theorem dict_ep {o : Obj} {es es' : Array DictEntry} {ep ep' : Nat} (h : o.data = .dict es ep) (h' : o.data = .dict es' ep') : es' = es ∧ ep' = ep := by
  rw [h] at h'
  cases h'
  exact ⟨rfl, rfl⟩
section
variable {P : Program} {w : World} {K : PySem.W.Frag} {tg : Expr} {d : Addr} {o : Obj} {es : Array DictEntry} {ep : Nat}
theorem turn_keys {kvs : List (Key × V)} (it : Addr) (hod : o.data = .dict es ep) : Turn P w K tg (Itk d o kvs) [it] it (fun i h => h.IsKeyIter it d i kvs.length ep) where
  mem := by simp
  obj := fun i h st b hb => by
    have e : b = it := by simpa using hb
    subst e
    obtain ⟨oi, e, c, dd⟩ := st
    exact ⟨oi, e, fun v z => by rw [dd] at z; cases z⟩
  keep := fun i h h' st k => st.at fun oi e => k it (by simp) oi e
  item := by
    intro X hP hw hK hc i pins s σ H E I hf st hg
    subst hP hw hK
    obtain ⟨hd, hi⟩ := hg
    obtain ⟨f0, f1, f2, f3, f4, f5⟩ := hf it (by simp)
    obtain ⟨hs, hgd, hx, es', ep', vs, hdt, hsz, kv, hm⟩ := I.frzK hd
    obtain ⟨rfl, rfl⟩ := dict_ep hod hdt
    obtain ⟨⟨k, v⟩, hkv⟩ : ∃ p, kvs[i]? = some p := ⟨kvs[i], List.getElem?_eq_getElem hi⟩
    obtain ⟨u, hu, ru⟩ := kv_get kv hkv
    have hl : kvs.length = vs.length := Paired.length kv
    rw [hl] at st
    refine wpAny_pyNext_dict_item st hm hu fun key h' hkey st' sb => ?_
    have I1 : Inv X pins σ H { s with heap := h' } := I.turned (t' := s.toks) (fun b ob hb e => (sb.2 b hb).trans e) f0 f1 f3 f4 f5
    obtain ⟨oi, e, c, dd⟩ := id st'
    refine ⟨key, rfl, go_of (s := { s with heap := h' }) e c dd (by decide) ⟨kV k, H, I1, relV_key (show keyIs k key = true from hkey), ⟨rfl, k, v, hkv, rfl⟩, ?_, fun b hb => (hf b hb).1⟩⟩
    show h'.IsKeyIter it d (i + 1) kvs.length _
    rw [hl]
    exact st'
  done := by
    intro X hP hw hK hc i pins s σ H E I hf st hg
    subst hP hw hK
    obtain ⟨hd, hi⟩ := hg
    obtain ⟨f0, f1, f2, f3, f4, f5⟩ := hf it (by simp)
    obtain ⟨hs, hgd, hx, es', ep', vs, hdt, hsz, kv, hm⟩ := I.frzK hd
    obtain ⟨rfl, rfl⟩ := dict_ep hod hdt
    exact next_key_end (I.ok.hd hc) st hgd hdt hsz hi fun h' eb => ⟨rfl, I.turned (t' := s.toks) (fun b ob hb e => eb b ob hb e) f0 f1 f3 f4 f5⟩
  self := fun A i s Q E st h => wpAny_pyIter_keyiter st h
theorem turn_keysT {kvs : List (List Key × V)} (it : Addr) (hod : o.data = .dict es ep) : Turn P w K tg (Itkt d o kvs) [it] it (fun i h => h.IsKeyIter it d i kvs.length ep) where
  mem := by simp
  obj := fun i h st b hb => by
    have e : b = it := by simpa using hb
    subst e
    obtain ⟨oi, e, c, dd⟩ := st
    exact ⟨oi, e, fun v z => by rw [dd] at z; cases z⟩
  keep := fun i h h' st k => st.at fun oi e => k it (by simp) oi e
  item := by
    intro X hP hw hK hc i pins s σ H E I hf st hg
    subst hP hw hK
    obtain ⟨hd, hi⟩ := hg
    obtain ⟨f0, f1, f2, f3, f4, f5⟩ := hf it (by simp)
    obtain ⟨hs, hgd, hx, es', ep', hdt, hsz, ent⟩ := I.frzT hd
    obtain ⟨rfl, rfl⟩ := dict_ep hod hdt
    obtain ⟨⟨k, v⟩, hkv⟩ : ∃ p, kvs[i]? = some p := ⟨kvs[i], List.getElem?_eq_getElem hi⟩
    obtain ⟨en, q, hen, hkey, hq⟩ := ent i k v hkv
    refine next_key_item st hgd hdt hsz hen fun h' st' sb => ?_
    have I1 : Inv X pins σ H { s with heap := h' } := I.turned (t' := s.toks) (fun b ob hb e => (sb.2 b hb).trans e) f0 f1 f3 f4 f5
    obtain ⟨oi, e, c, dd⟩ := id st'
    exact ⟨en.key, rfl, go_of (s := { s with heap := h' }) e c dd (by decide) ⟨.ref q, H, I1, hkey, ⟨rfl, k, v, q, hkv, rfl, hq⟩, st', fun b hb => (hf b hb).1⟩⟩
  done := by
    intro X hP hw hK hc i pins s σ H E I hf st hg
    subst hP hw hK
    obtain ⟨hd, hi⟩ := hg
    obtain ⟨f0, f1, f2, f3, f4, f5⟩ := hf it (by simp)
    obtain ⟨hs, hgd, hx, es', ep', hdt, hsz, ent⟩ := I.frzT hd
    obtain ⟨rfl, rfl⟩ := dict_ep hod hdt
    exact next_key_end (I.ok.hd hc) st hgd hdt hsz hi fun h' eb => ⟨rfl, I.turned (t' := s.toks) (fun b ob hb e => eb b ob hb e) f0 f1 f3 f4 f5⟩
  self := fun A i s Q E st h => by
    refine wpAny_pyIter_slot st.typeIs F.slot_dict_keyiterator_iter (wpAny_call_entry F.slot_dict_keyiterator_iter st.typeIs F.entry_dict_keyiterator_iter ?_ (F.args_dict_keyiterator_iter_1 _))
    show wpAny _ _ (ret (.ref it)) _ _ s
    exact wpAny_pure ⟨_, rfl, "dict_keyiterator", _, st.typeIs, F.slot_dict_keyiterator_next.lookup, h⟩
end

/-! ### for k in d, d.keys(), d.values(), d.items() -/
/-- the dict is locked (tLock, or by the caller) -/
def iKeys (td : TE) : TI := fun σ H R => td σ H fun x H1 => ∃ d o, x = .ref d ∧ ((∃ kvs, H1 d = some (.frz o (.dK kvs)) ∧ R (Itk d o kvs) H1) ∨ ∃ kvs, H1 d = some (.frz o (.dT kvs)) ∧ R (Itkt d o kvs) H1)
section
variable {X : Cx} {tg e : Expr} {td : TE} {apos cpos : Pos}
theorem pi_keys (he : PE X e td) : PI X tg e (iKeys td) := by
  intro pins s σ H R I h
  refine thn (he pins s σ H _ I h) fun u s1 ⟨x, H1, I1, rx, d, o, ex, q⟩ => ?_
  subst ex
  obtain rfl : u = Value.ref d := rx
  rcases q with ⟨kvs, hd, q⟩ | ⟨kvs, hd, q⟩
  · obtain ⟨hs, hgd, hx, es, ep, vs, hdt, hsz, kv, hm⟩ := I1.frzK hd
    refine iter_keys hs hgd hx hdt (pi_one (tk := s1.toks) I1 _ (turn_keys _ hdt) ⟨_, Heap.get?_push_size _ rfl, rfl, ?_⟩ q)
    rw [hsz] <;> rfl
  · obtain ⟨hs, hgd, hx, es, ep, hdt, hsz, ent⟩ := I1.frzT hd
    refine iter_keys hs hgd hx hdt (pi_one (tk := s1.toks) I1 _ (turn_keysT _ hdt) ⟨_, Heap.get?_push_size _ rfl, rfl, ?_⟩ q)
    rw [hsz] <;> rfl
end

/-! ### enumerate(list) -/
/-! ### zip(list, list) -/
end L2

section 
namespace Bits
open PySem PyProof.Rows

end Bits
end 

section 
namespace TL
open PySem PySem.Builtin PySem.Builtin.Str PySem.StrLaws

abbrev tl (x : Str) : List Nat := x.cps.toList
/-! ### the list functions -/
/-- S stands at the head of l -/
def pre (S l : List Nat) : Bool := l.take S.length == S
/-- what stands before the first S, and behind it -/
def par (S : List Nat) : List Nat → List Nat → Option (List Nat × List Nat)
  | _, [] => none
  | acc, c :: r => if pre S (c :: r) = true then some (acc, (c :: r).drop S.length) else par S (acc ++ [c]) r

/-! ### the model's split and partition are these -/
/-! ### computing spl and par -/
/-! ### digits -/
/-! ### words: x.split() -/
end TL
end 

namespace L2
open PySem PySem.Spec PyProof.Rows

section
variable {X : Cx} {pins : List (Addr × Obj)} {σ : St} {H : Hp} {s : Shared} {Q : VK}
end

section
variable {X : Cx}

/-! ### of a text alone -/
/-! ### of a text and a text -/
end

section
variable {X : Cx} {o e : Expr} {to te : TE}
end
end L2

namespace L2
open PySem PySem.Spec PyProof.Rows

section
variable {X : Cx}
end

/-! ### slices of a text -/
theorem IsPart.raw {v : Value} {o : Option Int} (p : IsPart v o) : ∃ l : Option (Int × Tok), v = partValue l ∧ l.map (·.1) = o := by
  cases p with
  | none => exact ⟨none, rfl, rfl⟩
  | int i t => exact ⟨some (i, t), rfl, rfl⟩

end L2

namespace Att
open PySem PySem.W PySem.Calls PyProof.Rows

/-! ### the script -/
/-! ### the attachment: holds_open's last premise (the goal 'hc' behind k_head) from a wpAny of the law's body -/
/-! ### rules over ANY heap (no ledger) from facts about the written part K: the library's own take a ledger (News) for what they write -/
section
variable {prog : Program} {w : World} {A : Around} {E : Value → Shared → Prop} {s : Shared} {K : Frag}

/-! the whole heap as the ledger: makes every rule that writes through a ledger a rule over any heap -/
end
end Att

namespace L2
open PySem PySem.Spec PyProof.Rows

end L2

namespace L2
open PySem PySem.Spec PyProof.Rows

end L2

/- THE LAST THEOREM (shape; LID, My.* are yours):
   My.Adr: a structure of the addresses that your layer names (classes, functions); My.Txt K t: a structure (Prop) of the equations over K;
   My.txt_mk : {K} {implicit addresses ..} (e1 : nsIn K mainGlobals "law" = some (some (.ref f))) (e2 : K.lookup f = some ⟨oc, od, .func (fnOf "law" "law" params body scope dV kV doc pm an cdv ct), sl⟩) (e3 : codeIn K cdv "law" = true) .. : ∃ t, My.Txt K t

set_option maxRecDepth 100000 in
set_option maxHeartbeats 0 in
(the tactic k_is has no namespace: write k_is) -/

/-! SHORT WORDS over the layer: a def of the text, its body, what a loop and a test want. -/
namespace L2
open PySem PySem.Spec PyProof.Rows

/-! ### the text by places -/
/-- the j-th statement of a class's body -/
def inClass (s : Stmt) (j : Nat) : Stmt := match s with
  | .ClassDef _ _ _ body _ _ _ _ _ _ _ => body.getD j (.Pass ⟨0, 0, 0, 0⟩)
  | _ => .Pass ⟨0, 0, 0, 0⟩
def defArgs (s : Stmt) : Arguments := match s with
  | .FunctionDef _ a _ _ _ _ _ _ _ _ => a
  | _ => { posonlyargs := [], args := [], vararg := none, kwonlyargs := [], kw_defaults := [], kwarg := none, defaults := [] }
def defBody (s : Stmt) : List Stmt := match s with
  | .FunctionDef _ _ b _ _ _ _ _ _ _ => b
  | _ => []
def defScope (s : Stmt) : Scope := match s with
  | .FunctionDef _ _ _ _ _ _ sc _ _ _ => sc
  | _ => { kind := .function, names := [], isGenerator := false, isCoroutine := false }

/-! ### no exception leaves a def -/
abbrev CX0 : CXT := fun _ _ _ _ _ _ => False
abbrev E0 : XK := fun _ _ _ => False
theorem pass0 {X : Cx} : Passes CX0 X E0 := fun _ _ _ _ _ _ _ h => h.elim

/-! ### a def (or method) of the text as it stands behind the top -/
structure Fun (K : PySem.W.Frag) (x qual : Str) (st : Stmt) (f : Addr) (fd : FuncData) : Prop where
  ex : ∃ (oc : Value) (od : Option Addr) (kV doc pm : Value) (an : Option Addr) (cdv ct : Value) (osl : Array (Option Value)),
    fd = PySem.W.fnOf x qual (defArgs st) (defBody st) (defScope st) .none kV doc pm an cdv ct ∧ K.lookup f = some ⟨oc, od, .func fd, osl⟩ ∧ PySem.W.codeIn K cdv qual = true
  kp : PySem.W.keepIn K (.ref f) = true
section
variable {P : Program} {w : World} {K : PySem.W.Frag} {mg : Str → Option Value} {base : Heap}
/-- THE RULE for a def: its body as a term of rules, and the reading of that term -/
theorem Fun.ok {x qual : Str} {st : Stmt} {f : Addr} {fd : FuncData} {N ps : List Str} {k : Nat} {sp : Sp} (F : Fun K x qual st f fd) (S : FnScope N ps (defScope st)) (len : ∀ vs H Q E, sp vs H Q E → vs.length = ps.length)
    (hbody : ∀ (cdv : Value) (A : Around) (outer : List Env) (s : Shared) (H : Hp) (vs : List V) (Q : VK) (E : XK), Room k (A.deeper (envOfC qual (defScope st) s.heap.objs.size f cdv)) → sp vs H Q E →
      ∃ t, PSs (cxOf CX0 P w K mg base N qual (defScope st) f cdv A outer s H E).nox (defBody st) t ∧ t { nx := fun _ H' => Q .non H', rt := Q } (start N vs) H) : FnOk P w K mg base CX0 (k + 1) f fd ps sp := by
  obtain ⟨oc, od, kV, doc, pm, an, cdv, ct, osl, rfl, lk, hcd⟩ := F.ex
  refine fn_of lk hcd S len fun A outer s H vs Q E hr hsp => ?_
  obtain ⟨t, h, q⟩ := hbody cdv A outer s H vs Q E hr hsp
  exact ⟨t, h.nox, q⟩
/-- how its arguments bind (no defaults): h is «fun _ _ _ _ _ _ us hl => match us, hl with | [_, _], _ => rfl», one _ a parameter -/
theorem Fun.binds {x qual : Str} {st : Stmt} {f : Addr} {fd : FuncData} {ps : List Str} (F : Fun K x qual st f fd)
    (h : ∀ (kV doc pm : Value) (an : Option Addr) (cdv ct : Value) (us : List Value), us.length = ps.length → bindArgs (PySem.W.fnOf x qual (defArgs st) (defBody st) (defScope st) .none kV doc pm an cdv ct) ⟨us, []⟩ = pure (ps.zip us)) : Binds K fd ps [] := by
  obtain ⟨oc, od, kV, doc, pm, an, cdv, ct, osl, rfl, lk, hcd⟩ := F.ex
  exact .all (h kV doc pm an cdv ct)
theorem fun_mk {x qual : Str} {st : Stmt} {f : Addr} {oc : Value} {od an : Option Addr} {osl : Array (Option Value)} {kV doc pm cdv ct : Value} (l : K.lookup f = some ⟨oc, od, .func (PySem.W.fnOf x qual (defArgs st) (defBody st) (defScope st) .none kV doc pm an cdv ct), osl⟩)
    (c : PySem.W.codeIn K cdv qual = true) (k : PySem.W.keepIn K (.ref f) = true) : Fun K x qual st f (PySem.W.fnOf x qual (defArgs st) (defBody st) (defScope st) .none kV doc pm an cdv ct) := ⟨⟨oc, od, kV, doc, pm, an, cdv, ct, osl, rfl, l, c⟩, k⟩
end
theorem hu_of {A : Around} {k : Nat} (hr : Room k A) : A.units + 1 < cLine := Nat.lt_of_le_of_lt (Nat.add_le_add_left (by decide : 1 ≤ 64) _) hr.units
/-! ### expressions in short: the name that stands in the i-th slot -/
section
variable {X : Cx}
theorem pv (i : Nat) {x : Str} {pos : Pos} (hN : X.N[i]? = some x := by rfl) (hv : Vis X.env.scope x := by first | exact Or.inl rfl | exact Or.inr (Or.inl rfl) | exact Or.inr (Or.inr rfl)) (hd : (x == ("__debug__" : Str)) = false := by decide)
    (hcd : (x == ("__classdict__" : Str)) = false := by decide) : PE X (.Name x pos) (tVar i) := pe_var hN hv hd hcd
end

/-! ### tests -/
theorem iteF {A B : Prop} (h : B) : if false = true then A else B := by
  rw [if_neg Bool.false_ne_true]
  exact h
theorem iteT {A B : Prop} (h : A) : if true = true then A else B := by
  rw [if_pos rfl]
  exact h
theorem ite2 {c A B : Prop} [Decidable c] (h1 : c → A) (h2 : ¬ c → B) : if c then A else B := by
  by_cases h : c
  · rw [if_pos h]
    exact h1 h
  · rw [if_neg h]
    exact h2 h
/-! ### heaps -/
/-- all that was tracked is as it was -/
def Same (H H' : Hp) : Prop := ∀ b o, H b = some o → H' b = some o
theorem Same.refl (H : Hp) : Same H H := fun _ _ h => h
theorem Same.trans {H H1 H2 : Hp} (a : Same H H1) (b : Same H1 H2) : Same H H2 := fun c o h => b c o (a c o h)
theorem Same.free {H H' : Hp} (e : Same H H') {l : Addr} (h : H' l = Option.none) : H l = Option.none := by
  cases q : H l with
  | none => rfl
  | some o =>
    rw [e l o q] at h
    cases h
theorem Same.seq {K : PySem.W.Frag} {H H' : Hp} {a : Addr} {xs : List V} (e : Same H H') (h : SqL K H a xs) : SqL K H' a xs := by
  rcases h with (h | ⟨o, h⟩) | h
  · exact .inl (.inl (e _ _ h))
  · exact .inl (.inr ⟨o, e _ _ h⟩)
  · exact .inr h

/-! ### a dict's pairs: keys that differ -/
section
variable {κ : Type} [DecidableEq κ]
end
/-! ### lists -/
theorem nd_ix {α : Type} {l : List α} (hN : l.Nodup) {i j : Nat} {x : α} (a : l[i]? = some x) (b : l[j]? = some x) : i = j := by
  obtain ⟨h1, e1⟩ := List.getElem?_eq_some_iff.mp a
  obtain ⟨h2, e2⟩ := List.getElem?_eq_some_iff.mp b
  exact (List.getElem_inj hN).mp (e1.trans e2.symm)
theorem sum_take : ∀ {l : List Int} {i : Nat} {z : Int}, l[i]? = some z → (l.take (i + 1)).sum = (l.take i).sum + z
  | [], i, z, h => by simp at h
  | a :: r, 0, z, h => by
    have e : a = z := Option.some.inj h
    subst e
    show ([a] : List Int).sum = ([] : List Int).sum + a
    rw [List.sum_cons]
    exact Int.add_comm _ _
  | a :: r, i + 1, z, h => by
    have ih := sum_take (l := r) (i := i) (z := z) h
    show (a :: r.take (i + 1)).sum = (a :: r.take i).sum + z
    rw [List.sum_cons, List.sum_cons, ih]
    omega
/-- a new instance and its __init__ leave all that was tracked as it was -/
theorem Same.made {H H1 : Hp} {x dx C : Addr} (nx : H x = Option.none) (nd : H dx = Option.none) (k : ∀ b o, (upd (upd H dx (.own x)) x (.ins C dx [])) b = some o → b ≠ x → H1 b = some o) : Same H H1 := fun b o e =>
  k b o (by rw [upd_ne (ne_of_none e nx), upd_ne (ne_of_none e nd)]; exact e) (ne_of_none e nx)
end L2

section
set_option Elab.async false
set_option linter.all false
set_option maxRecDepth 100000
set_option maxHeartbeats 2000000
namespace L2
open PySem PySem.Spec PyProof.Rows
open PySem.W (WData Codec OpenSpec Well WellAll ReadsW ReadsAllW)
/-! ### an answer as data -/
mutual
/-- x stands for the datum d, lists and tuples all the way -/
inductive Dw (K : PySem.W.Frag) (H : Hp) : V → WData → Prop
  | non : Dw K H .non .none
  | bl (b : Bool) : Dw K H (.bl b) (.bool b)
  | int (i : Int) : Dw K H (.int i) (.int i)
  | str (x : Str) : Dw K H (.str x) (.str x)
  | byt (b : Array UInt8) : Dw K H (.byt b) (.bytes b.toList)
  | lst {a : Addr} {xs : List V} {ds : List WData} : SqL K H a xs → DwAll K H xs ds → Dw K H (.ref a) (.list ds)
  | tup {a : Addr} {xs : List V} {ds : List WData} : SqT K H a xs → DwAll K H xs ds → Dw K H (.ref a) (.tuple ds)
inductive DwAll (K : PySem.W.Frag) (H : Hp) : List V → List WData → Prop
  | nil : DwAll K H [] []
  | cons {v : V} {vs : List V} {d : WData} {ds : List WData} : Dw K H v d → DwAll K H vs ds → DwAll K H (v :: vs) (d :: ds)
end
theorem dw_ints {K : PySem.W.Frag} {H : Hp} : ∀ ns : List Int, DwAll K H (ns.map V.int) (ns.map WData.int)
  | [] => .nil
  | n :: r => .cons (.int n) (dw_ints r)
theorem ints_dw {K : PySem.W.Frag} {H : Hp} : ∀ (ns : List Int) (xs : List V), DwAll K H xs (ns.map WData.int) → xs = ns.map V.int
  | [], xs, h => by
    cases h
    rfl
  | n :: r, xs, h => by
    cases h with
    | cons h1 h2 =>
      cases h1
      rw [ints_dw r _ h2] <;> rfl
section
variable {P : Program} {w : World} {K : PySem.W.Frag} {H : Hp} {h : Heap} {R : PySem.W.WRecords} {cl : Str → Option Addr}
theorem sqL_at {a : Addr} {xs : List V} (hok : HOk P w H h) (KX : K.In h) (q : SqL K H a xs) : ∃ (its : List Value) (o : Obj) (n : Nat), Vals xs its ∧ h.get? a = some o ∧ o.cls = .type "list" ∧ o.data = .seq its.toArray n := by
  rcases q with q | ⟨o, its, n, e, hc, _, hd, _, hv⟩
  · obtain ⟨_, its, n, hv, e⟩ := (show ObjOk P w H h a (.lst xs) from q.ok hok)
    exact ⟨its, _, n, hv, e, rfl, rfl⟩
  · exact ⟨its.toList, o, n, hv, KX _ _ e, hc, by simp [hd]⟩
theorem sqT_at {a : Addr} {xs : List V} (hok : HOk P w H h) (KX : K.In h) (q : SqT K H a xs) : ∃ (its : List Value) (o : Obj) (n : Nat), Vals xs its ∧ h.get? a = some o ∧ o.cls = .type "tuple" ∧ o.data = .seq its.toArray n := by
  rcases q with q | ⟨o, its, n, e, hc, hd, _, hv⟩
  · obtain ⟨_, its, hv, o, e, hc, ⟨n, hd⟩, _⟩ := (show ObjOk P w H h a (.tup xs) from q.ok hok)
    exact ⟨its, o, n, hv, e, hc, hd⟩
  · exact ⟨its.toList, o, n, hv, KX _ _ e, hc, by simp [hd]⟩
mutual
theorem Dw.reads (hok : HOk P w H h) (KX : K.In h) : ∀ (d : WData) (v : V) (u : Value), Dw K H v d → RelV v u → ∃ as, ReadsW R cl h u d as
  | .none, _, _, x, r => by
    cases x
    cases r
    exact ⟨_, ReadsW.none⟩
  | .bool b, _, _, x, r => by
    cases x
    cases r
    exact ⟨_, ReadsW.bool b⟩
  | .int i, _, _, x, r => by
    cases x
    obtain ⟨t, rfl⟩ := r
    exact ⟨_, ReadsW.int i t⟩
  | .str s, _, _, x, r => by
    cases x
    obtain ⟨t, rfl⟩ := r
    exact ⟨_, ReadsW.str s t⟩
  | .bytes b, _, _, x, r => by
    cases x
    obtain ⟨t, rfl⟩ := r
    exact ⟨_, ReadsW.bytes _ t⟩
  | .list ds, _, _, x, r => by
    cases x with
    | lst hs ha =>
      cases r
      obtain ⟨its, o, n, rv, ho, hc, hd⟩ := sqL_at hok KX hs
      obtain ⟨as, hr⟩ := Dw.readsAll hok KX ds _ its ha rv
      exact ⟨_, ReadsW.list ho hc hd hr⟩
  | .tuple ds, _, _, x, r => by
    cases x with
    | tup hs ha =>
      cases r
      obtain ⟨its, o, n, rv, ho, hc, hd⟩ := sqT_at hok KX hs
      obtain ⟨as, hr⟩ := Dw.readsAll hok KX ds _ its ha rv
      exact ⟨_, ReadsW.tuple ho hc hd hr⟩
  | .float _, _, _, x, _ => by cases x
  | .dict _, _, _, x, _ => by cases x
  | .bytearray _, _, _, x, _ => by cases x
  | .set _, _, _, x, _ => by cases x
  | .frozenset _, _, _, x, _ => by cases x
  | .obj _ _, _, _, x, _ => by cases x
theorem Dw.readsAll (hok : HOk P w H h) (KX : K.In h) : ∀ (ds : List WData) (vs : List V) (us : List Value), DwAll K H vs ds → Vals vs us → ∃ as, ReadsAllW R cl h us ds as
  | [], _, _, x, r => by
    cases x
    cases r
    exact ⟨_, ReadsAllW.nil⟩
  | d :: ds, _, _, x, r => by
    cases x with
    | cons h1 h2 =>
      cases r with
      | cons r1 r2 =>
        obtain ⟨as, q1⟩ := Dw.reads hok KX d _ _ h1 r1
        obtain ⟨bs, q2⟩ := Dw.readsAll hok KX ds _ _ h2 r2
        exact ⟨_, ReadsAllW.cons q1 q2⟩
end
end
/-! ### the arguments -/
mutual
/-- data that a codec tells -/
def plW : WData → Bool
  | .none => true
  | .bool _ => true
  | .int _ => true
  | .str _ => true
  | .bytes _ => true
  | .list xs => plWs xs
  | .tuple xs => plWs xs
  | _ => false
def plWs : List WData → Bool
  | [] => true
  | x :: r => plW x && plWs r
end
theorem plWs_map {α : Type} {f : α → WData} (h : ∀ a, plW (f a) = true) : ∀ l : List α, plWs (l.map f) = true
  | [] => rfl
  | x :: r => by
    show (plW (f x) && plWs (r.map f)) = true
    rw [h x, plWs_map h r] <;> rfl
theorem pl_enc : ∀ (c : Codec) (a : c.denote), plW (c.enc a) = true
  | .unit, _ => rfl
  | .bool, _ => rfl
  | .int _ _, _ => rfl
  | .nat _ _, _ => rfl
  | .u8, _ => rfl
  | .bytes _ _, _ => rfl
  | .text _ _ _ _, _ => rfl
  | .list _ _ c, a => plWs_map (fun x => pl_enc c x) a
  | .pair c d, a => by
    show (plW (c.enc a.1) && (plW (d.enc a.2) && true)) = true
    rw [pl_enc c a.1, pl_enc d a.2] <;> rfl
  | .triple c d e, a => by
    show (plW (c.enc a.1) && (plW (d.enc a.2.1) && (plW (e.enc a.2.2) && true))) = true
    rw [pl_enc c a.1, pl_enc d a.2.1, pl_enc e a.2.2] <;> rfl
  | .option c, none => rfl
  | .option c, some x => pl_enc c x
theorem pl_encAll : ∀ (cs : List Codec) (a : Codec.denoteAll cs), plWs (Codec.encAll cs a) = true
  | [], _ => rfl
  | c :: cs, a => by
    show (plW (c.enc a.1) && plWs (Codec.encAll cs a.2)) = true
    rw [pl_enc c a.1, pl_encAll cs a.2] <;> rfl
theorem weight_mem : ∀ {xs : List WData} {d : WData}, d ∈ xs → d.weight ≤ WData.weightAll xs
  | [], d, h => absurd h (by simp)
  | x :: r, d, h => by
    show d.weight ≤ x.weight + 1 + WData.weightAll r
    rcases List.mem_cons.mp h with e | m
    · rw [e]
      omega
    · have z := weight_mem m
      omega
def toV : Value → V
  | .none => .non
  | .bool b => .bl b
  | .int i _ => .int i
  | .str x _ => .str x
  | .bytes b _ => .byt b
  | .ref a => .ref a
  | _ => .non
/-- a value of the arguments, its objects among A -/
def OkU (A : List Addr) : Value → Prop
  | .none => True
  | .bool _ => True
  | .int _ _ => True
  | .str _ _ => True
  | .bytes _ _ => True
  | .ref a => a ∈ A
  | _ => False
theorem OkU.mono {A B : List Addr} (h : ∀ a ∈ A, a ∈ B) : ∀ {u : Value}, OkU A u → OkU B u := fun {u} x => by
  cases u with
  | ref a => exact h a x
  | none => trivial
  | bool b => trivial
  | int i t => trivial
  | str s t => trivial
  | bytes b t => trivial
  | _ => exact False.elim x
theorem relV_toV {A : List Addr} {u : Value} (x : OkU A u) : RelV (toV u) u := by
  cases u with
  | ref a => rfl
  | none => rfl
  | bool b => rfl
  | int i t => exact ⟨t, rfl⟩
  | str s t => exact ⟨t, rfl⟩
  | bytes b t => exact ⟨t, rfl⟩
  | _ => exact False.elim x
theorem vals_toV {A : List Addr} : ∀ {vs : List Value}, (∀ u ∈ vs, OkU A u) → Vals (vs.map toV) vs
  | [], _ => .nil
  | u :: r, h => .cons (relV_toV (h u (List.mem_cons_self ..))) (vals_toV fun x hx => h x (List.mem_cons_of_mem _ hx))
/-- an object of the arguments -/
def ArgOb (h : Heap) (A : List Addr) (a : Addr) : Prop := ∃ vs : List Value, vs.length ≤ sizeLine ∧ (∀ u ∈ vs, OkU A u) ∧
  (h.get? a = some { cls := .type "list", data := .seq vs.toArray } ∨ h.get? a = some { cls := .type "tuple", data := .seq vs.toArray })
theorem ArgOb.mono {h : Heap} {A B : List Addr} {a : Addr} (k : ∀ a ∈ A, a ∈ B) (x : ArgOb h A a) : ArgOb h B a := by
  obtain ⟨vs, h1, h2, h3⟩ := x
  exact ⟨vs, h1, fun u hu => (h2 u hu).mono k, h3⟩
theorem wellAll_len {P : Params} {h : Heap} : ∀ {vs : List Value} {ds : List WData}, WellAll P h vs ds → vs.length = ds.length
  | _, _, .nil => rfl
  | _, _, .cons _ b => by
    show _ + 1 = _ + 1
    rw [wellAll_len b]
theorem well_list {P : Params} {h : Heap} {v : Value} {ds : List WData} (x : Well P h v (.list ds)) : ∃ (a : Addr) (vs : List Value), v = .ref a ∧ h.get? a = some { cls := .type "list", data := .seq vs.toArray } ∧ WellAll P h vs ds := by
  cases x with
  | list ho hall => exact ⟨_, _, rfl, ho, hall⟩
theorem well_tuple {P : Params} {h : Heap} {v : Value} {ds : List WData} (x : Well P h v (.tuple ds)) : ∃ (a : Addr) (vs : List Value), v = .ref a ∧ h.get? a = some { cls := .type "tuple", data := .seq vs.toArray } ∧ WellAll P h vs ds := by
  cases x with
  | tuple ho hall => exact ⟨_, _, rfl, ho, hall⟩
theorem well_cons {P : Params} {h : Heap} {us : List Value} {d : WData} {ds : List WData} (x : WellAll P h us (d :: ds)) : ∃ (v : Value) (vs : List Value), us = v :: vs ∧ Well P h v d ∧ WellAll P h vs ds := by
  cases x with
  | cons a b => exact ⟨_, _, rfl, a, b⟩
theorem line_of {n : Nat} (h : n ≤ 1048576) : n ≤ sizeLine := Nat.le_trans h (by decide)
section
variable {P : Params} {h : Heap}
mutual
theorem area_one : ∀ (d : WData) (v : Value), Well P h v d → plW d = true → d.weight ≤ 1048576 → ∃ A : List Addr, OkU A v ∧ ∀ a ∈ A, ArgOb h A a
  | .none, _, x, _, _ => by
    cases x
    exact ⟨[], trivial, fun a m => absurd m (by simp)⟩
  | .bool b, _, x, _, _ => by
    cases x
    exact ⟨[], trivial, fun a m => absurd m (by simp)⟩
  | .int i, _, x, _, _ => by
    cases x
    exact ⟨[], trivial, fun a m => absurd m (by simp)⟩
  | .str s, _, x, _, _ => by
    cases x
    exact ⟨[], trivial, fun a m => absurd m (by simp)⟩
  | .bytes b, _, x, _, _ => by
    cases x
    exact ⟨[], trivial, fun a m => absurd m (by simp)⟩
  | .list ds, _, x, p, z => by
    obtain ⟨a, vs, rfl, ho, hall⟩ := well_list x
    have z2 : WData.weightAll ds ≤ 1048576 := z
    obtain ⟨A, h1, h2⟩ := area_all ds _ hall p fun d hd => Nat.le_trans (weight_mem hd) z2
    have k : ∀ b ∈ A, b ∈ a :: A := fun b hb => List.mem_cons_of_mem _ hb
    refine ⟨a :: A, List.mem_cons_self .., fun b hb => ?_⟩
    rcases List.mem_cons.mp hb with e | m
    · rw [e]
      exact ⟨vs, line_of (by rw [wellAll_len hall]; exact Nat.le_trans (PySem.W.length_le_weightAllW ds) z2), fun u hu => (h1 u hu).mono k, .inl ho⟩
    · exact (h2 b m).mono k
  | .tuple ds, _, x, p, z => by
    obtain ⟨a, vs, rfl, ho, hall⟩ := well_tuple x
    have z2 : WData.weightAll ds ≤ 1048576 := z
    obtain ⟨A, h1, h2⟩ := area_all ds _ hall p fun d hd => Nat.le_trans (weight_mem hd) z2
    have k : ∀ b ∈ A, b ∈ a :: A := fun b hb => List.mem_cons_of_mem _ hb
    refine ⟨a :: A, List.mem_cons_self .., fun b hb => ?_⟩
    rcases List.mem_cons.mp hb with e | m
    · rw [e]
      exact ⟨vs, line_of (by rw [wellAll_len hall]; exact Nat.le_trans (PySem.W.length_le_weightAllW ds) z2), fun u hu => (h1 u hu).mono k, .inr ho⟩
    · exact (h2 b m).mono k
  | .float _, _, _, p, _ => Bool.noConfusion (show false = true from p)
  | .dict _, _, _, p, _ => Bool.noConfusion (show false = true from p)
  | .bytearray _, _, _, p, _ => Bool.noConfusion (show false = true from p)
  | .set _, _, _, p, _ => Bool.noConfusion (show false = true from p)
  | .frozenset _, _, _, p, _ => Bool.noConfusion (show false = true from p)
  | .obj _ _, _, _, p, _ => Bool.noConfusion (show false = true from p)
theorem area_all : ∀ (ds : List WData) (vs : List Value), WellAll P h vs ds → plWs ds = true → (∀ d ∈ ds, d.weight ≤ 1048576) → ∃ A : List Addr, (∀ u ∈ vs, OkU A u) ∧ ∀ a ∈ A, ArgOb h A a
  | [], _, x, _, _ => by
    cases x
    exact ⟨[], fun u m => absurd m (by simp), fun a m => absurd m (by simp)⟩
  | d :: ds, _, x, p, z => by
    obtain ⟨v, vs, rfl, x1, x2⟩ := well_cons x
    have q : plW d = true ∧ plWs ds = true := Bool.and_eq_true_iff.mp p
    obtain ⟨A, a1, a2⟩ := area_one d v x1 q.1 (z d (List.mem_cons_self ..))
    obtain ⟨B, b1, b2⟩ := area_all ds vs x2 q.2 fun e he => z e (List.mem_cons_of_mem _ he)
    have kA : ∀ b ∈ A, b ∈ A ++ B := fun b hb => List.mem_append.mpr (.inl hb)
    have kB : ∀ b ∈ B, b ∈ A ++ B := fun b hb => List.mem_append.mpr (.inr hb)
    refine ⟨A ++ B, fun u hu => ?_, fun b hb => ?_⟩
    · rcases List.mem_cons.mp hu with e | m
      · rw [e]
        exact a1.mono kA
      · exact (b1 u m).mono kB
    · rcases List.mem_append.mp hb with m | m
      · exact (a2 b m).mono kA
      · exact (b2 b m).mono kB
end
end
/-- what is tracked of an argument's object -/
def hoOf (o : Obj) : Option HO := match o.data with
  | .seq vs _ => if (o.cls == Value.type "list") = true then some (.frz o (.lst (vs.toList.map toV))) else some (.frz o (.tup (vs.toList.map toV)))
  | _ => none
def argH (K : PySem.W.Frag) (h : Heap) (A : List Addr) : Hp := fun b => if b ∈ A then (if (K.lookup b).isNone = true then (h.get? b).bind hoOf else none) else none
/-- nothing is tracked but what is known to the object -/
def OnlyF (H : Hp) : Prop := ∀ b, H b = none ∨ ∃ o u, H b = some (.frz o u)
theorem hoOf_lst (vs : List Value) : hoOf { cls := .type "list", data := .seq vs.toArray } = some (.frz { cls := .type "list", data := .seq vs.toArray } (.lst (vs.map toV))) := by
  show (if (Value.type "list" == Value.type "list") = true then some (HO.frz { cls := .type "list", data := .seq vs.toArray } (.lst (vs.toArray.toList.map toV))) else some (HO.frz { cls := .type "list", data := .seq vs.toArray } (.tup (vs.toArray.toList.map toV)))) = _
  rw [if_pos (beq_self_eq_true _)]
theorem hoOf_tup (vs : List Value) : hoOf { cls := .type "tuple", data := .seq vs.toArray } = some (.frz { cls := .type "tuple", data := .seq vs.toArray } (.tup (vs.map toV))) := by
  show (if (Value.type "tuple" == Value.type "list") = true then some (HO.frz { cls := .type "tuple", data := .seq vs.toArray } (.lst (vs.toArray.toList.map toV))) else some (HO.frz { cls := .type "tuple", data := .seq vs.toArray } (.tup (vs.toArray.toList.map toV)))) = _
  rw [if_neg (by decide)]
section
variable {P : Program} {w : World} {K : PySem.W.Frag} {h : Heap} {A : List Addr}
theorem argH_at {b : Addr} {o : Obj} (hb : b ∈ A) (hk : K.lookup b = none) (e : h.get? b = some o) : argH K h A b = hoOf o := by
  unfold argH
  rw [if_pos hb, hk, if_pos (show (none : Option Obj).isNone = true from rfl), e] <;> rfl
theorem of_argH {b : Addr} {u : HO} (q : argH K h A b = some u) : b ∈ A ∧ K.lookup b = none := by
  unfold argH at q
  by_cases hb : b ∈ A
  · rw [if_pos hb] at q
    cases hk : K.lookup b with
    | none => exact ⟨hb, rfl⟩
    | some o =>
      rw [hk, if_neg (by simp)] at q
      cases q
  · rw [if_neg hb] at q
    cases q
/-- what stands tracked -/
theorem argH_is (ar : ∀ a ∈ A, ArgOb h A a) {b : Addr} {u : HO} (q : argH K h A b = some u) : K.lookup b = none ∧ ∃ vs : List Value, vs.length ≤ sizeLine ∧ (∀ u ∈ vs, OkU A u) ∧
    ((h.get? b = some { cls := .type "list", data := .seq vs.toArray } ∧ u = .frz { cls := .type "list", data := .seq vs.toArray } (.lst (vs.map toV))) ∨
     (h.get? b = some { cls := .type "tuple", data := .seq vs.toArray } ∧ u = .frz { cls := .type "tuple", data := .seq vs.toArray } (.tup (vs.map toV)))) := by
  obtain ⟨hb, hk⟩ := of_argH q
  obtain ⟨vs, h1, h2, h3⟩ := ar b hb
  refine ⟨hk, vs, h1, h2, ?_⟩
  rcases h3 with e | e
  · rw [argH_at hb hk e, hoOf_lst] at q
    exact .inl ⟨e, (Option.some.inj q).symm⟩
  · rw [argH_at hb hk e, hoOf_tup] at q
    exact .inr ⟨e, (Option.some.inj q).symm⟩
theorem argH_only (ar : ∀ a ∈ A, ArgOb h A a) : OnlyF (argH K h A) := fun b => by
  cases q : argH K h A b with
  | none => exact .inl rfl
  | some u =>
    obtain ⟨_, vs, _, _, ⟨_, e⟩ | ⟨_, e⟩⟩ := argH_is ar q
    · exact .inr ⟨_, _, by rw [e]⟩
    · exact .inr ⟨_, _, by rw [e]⟩
theorem argH_ok (ar : ∀ a ∈ A, ArgOb h A a) : HOk P w (argH K h A) h := fun b u q => by
  obtain ⟨_, vs, h1, h2, ⟨e, rfl⟩ | ⟨e, rfl⟩⟩ := argH_is ar q
  · exact ⟨e, by rw [List.length_map]; exact h1, vs, _, vals_toV h2, e⟩
  · exact ⟨e, by rw [List.length_map]; exact h1, vs, vals_toV h2, _, e, rfl, ⟨_, rfl⟩, rfl⟩
theorem seq_inj {c c' : Value} {vs us : List Value} (e : (some { cls := c, data := .seq vs.toArray } : Option Obj) = some { cls := c', data := .seq us.toArray }) : c = c' ∧ vs = us := by
  have e1 := Option.some.inj e
  have e2 : c = c' := congrArg Obj.cls e1
  have e3 : Data.seq vs.toArray = Data.seq us.toArray := congrArg Obj.data e1
  injection e3 with e4
  refine ⟨e2, ?_⟩
  have e5 := congrArg Array.toList e4
  simpa using e5
/-- a list argument -/
theorem argL (KX : K.In h) (ar : ∀ a ∈ A, ArgOb h A a) {a : Addr} {vs : List Value} (ha : a ∈ A) (e : h.get? a = some { cls := .type "list", data := .seq vs.toArray }) : (∀ u ∈ vs, OkU A u) ∧ SqL K (argH K h A) a (vs.map toV) := by
  obtain ⟨us, h1, h2, h3⟩ := ar a ha
  have hu : us = vs := by
    rcases h3 with q | q
    · rw [e] at q
      exact (seq_inj q).2.symm
    · rw [e] at q
      exact absurd (Value.type.inj (seq_inj q).1) (by decide)
  subst hu
  refine ⟨h2, ?_⟩
  cases hk : K.lookup a with
  | none => exact .inl (.inr ⟨_, by rw [argH_at ha hk e, hoOf_lst]⟩)
  | some o =>
    have e2 := KX a o hk
    rw [e] at e2
    obtain rfl := Option.some.inj e2
    exact .inr ⟨_, us.toArray, _, hk, rfl, rfl, rfl, by rw [List.size_toArray]; exact h1, by simpa using vals_toV h2⟩
theorem argT (KX : K.In h) (ar : ∀ a ∈ A, ArgOb h A a) {a : Addr} {vs : List Value} (ha : a ∈ A) (e : h.get? a = some { cls := .type "tuple", data := .seq vs.toArray }) : (∀ u ∈ vs, OkU A u) ∧ SqT K (argH K h A) a (vs.map toV) := by
  obtain ⟨us, h1, h2, h3⟩ := ar a ha
  have hu : us = vs := by
    rcases h3 with q | q
    · rw [e] at q
      exact absurd (Value.type.inj (seq_inj q).1) (by decide)
    · rw [e] at q
      exact (seq_inj q).2.symm
  subst hu
  refine ⟨h2, ?_⟩
  cases hk : K.lookup a with
  | none => exact .inl (.inr ⟨_, by rw [argH_at ha hk e, hoOf_tup]⟩)
  | some o =>
    have e2 := KX a o hk
    rw [e] at e2
    obtain rfl := Option.some.inj e2
    exact .inr ⟨_, us.toArray, _, hk, rfl, rfl, by rw [List.size_toArray]; exact h1, by simpa using vals_toV h2⟩
mutual
theorem dw_one {Pm : Params} (KX : K.In h) (ar : ∀ a ∈ A, ArgOb h A a) : ∀ (d : WData) (v : Value), Well Pm h v d → plW d = true → OkU A v → Dw K (argH K h A) (toV v) d
  | .none, _, x, _, _ => by
    cases x
    exact .non
  | .bool b, _, x, _, _ => by
    cases x
    exact .bl b
  | .int i, _, x, _, _ => by
    cases x
    exact .int i
  | .str s, _, x, _, _ => by
    cases x
    exact .str s
  | .bytes b, _, x, _, _ => by
    cases x
    have z := Dw.byt (K := K) (H := argH K h A) b.toArray
    exact z
  | .list ds, _, x, p, hu => by
    obtain ⟨a, vs, rfl, ho, hall⟩ := well_list x
    obtain ⟨h2, hs⟩ := argL KX ar hu ho
    exact .lst hs (dw_all KX ar ds _ hall p h2)
  | .tuple ds, _, x, p, hu => by
    obtain ⟨a, vs, rfl, ho, hall⟩ := well_tuple x
    obtain ⟨h2, hs⟩ := argT KX ar hu ho
    exact .tup hs (dw_all KX ar ds _ hall p h2)
  | .float _, _, _, p, _ => Bool.noConfusion (show false = true from p)
  | .dict _, _, _, p, _ => Bool.noConfusion (show false = true from p)
  | .bytearray _, _, _, p, _ => Bool.noConfusion (show false = true from p)
  | .set _, _, _, p, _ => Bool.noConfusion (show false = true from p)
  | .frozenset _, _, _, p, _ => Bool.noConfusion (show false = true from p)
  | .obj _ _, _, _, p, _ => Bool.noConfusion (show false = true from p)
theorem dw_all {Pm : Params} (KX : K.In h) (ar : ∀ a ∈ A, ArgOb h A a) : ∀ (ds : List WData) (vs : List Value), WellAll Pm h vs ds → plWs ds = true → (∀ u ∈ vs, OkU A u) → DwAll K (argH K h A) (vs.map toV) ds
  | [], _, x, _, _ => by
    cases x
    exact .nil
  | d :: ds, _, x, p, hu => by
    obtain ⟨v, vs, rfl, x1, x2⟩ := well_cons x
    have q : plW d = true ∧ plWs ds = true := Bool.and_eq_true_iff.mp p
    exact .cons (dw_one KX ar d v x1 q.1 (hu _ (List.mem_cons_self ..))) (dw_all KX ar ds vs x2 q.2 fun u m => hu u (List.mem_cons_of_mem _ m))
end
end
/-! ### the call -/
theorem spec_call {P : Program} {w : World} {K : PySem.W.Frag} {mg mb : Str → Option Value} {CX : CXT} {k : Nat} {fa : Addr} {fd : FuncData} {ps : List Str} {sp : Sp} {s₁ : Shared} {vals : List Value} {ds : List WData} {R : PySem.W.WRecords} {cl : Str → Option Addr} {d0 : WData}
    (KX : K.In s₁.heap) (hns : s₁.heap.Ns mainGlobals mg) (hb : s₁.heap.Ns builtinsNs mb) (hbb : ∀ x : Str, x ≠ "__name__" → mb x = bootBuiltins x) (hlim : s₁.heap.NoLimit) (hg : s₁.gens = #[])
    (hwl : WellAll w.params s₁.heap vals ds) (hpl : plWs ds = true) (hwt : ∀ d ∈ ds, d.weight ≤ 1048576) (hr : Room k callerA)
    (F : ∀ base : Heap, K.In base → base.Ns mainGlobals mg → FnOk P w K mg base CX k fa fd ps sp) (hbind : ∀ (s : Shared) (us : List Value), us.length = ps.length → BindsTo s fd ⟨us, []⟩ (ps.zip us)) (hlen : ds.length = ps.length)
    (hsp : ∀ (H : Hp) (xs : List V), OnlyF H → DwAll K H xs ds → sp xs H (fun v H' => Dw K H' v d0) fun _ _ _ => False)
    (hCX : ∀ H e s', CX [] H s₁ (fun _ _ _ => False) e s' → False) :
    codeAny (model P w) callerA (.call (.ref fa) ⟨vals, []⟩) (fun r s' => ∃ u as, r = .ok (.ret u) ∧ ReadsW R cl s'.heap u d0 as ∧ OldK s₁.heap s'.heap ∧ s'.os = s₁.os ∧ AllBare s'.gens) s₁ := by
  obtain ⟨A, ho, ar⟩ := area_all ds vals hwl hpl hwt
  have hO : OnlyF (argH K s₁.heap A) := argH_only ar
  have hok : HOk P w (argH K s₁.heap A) s₁.heap := argH_ok ar
  have hS := dw_all KX ar ds vals hwl hpl ho
  have hV := vals_toV ho
  have hK : ∀ b u, argH K s₁.heap A b = some u → K.lookup b = none := fun b u q => (argH_is ar q).1
  have noA : ∀ {b : Addr} {o : Obj} {es : Array DictEntry} {ep : Nat}, s₁.heap.get? b = some o → o.data = .dict es ep → argH K s₁.heap A b = none := fun {b o es ep} e d => by
    cases q : argH K s₁.heap A b with
    | none => rfl
    | some u =>
      obtain ⟨_, vs, _, _, ⟨e2, _⟩ | ⟨e2, _⟩⟩ := argH_is ar q
      · rw [e2] at e
        cases e
        have d' : Data.seq vs.toArray _ = Data.dict es ep := d
        cases d'
      · rw [e2] at e
        cases e
        have d' : Data.seq vs.toArray _ = Data.dict es ep := d
        cases d'
  generalize argH K s₁.heap A = H at hO hok hS hK noA
  have base_of : ∀ {b : Addr} {o : Obj}, s₁.heap.get? b = some o → H b = none → (hidT s₁.heap H).get? b = some o := fun e n => hidT_get e n
  have nsK : ∀ {b : Addr} {m : Str → Option Value}, s₁.heap.Ns b m → (hidT s₁.heap H).Ns b m := fun {b m} ⟨o, es, ep, e, d, r⟩ => ⟨o, es, ep, base_of e (noA e d), d, r⟩
  have nK : ∀ b o, K.lookup b = some o → H b = none := fun b o e => by
    cases q : H b with
    | none => rfl
    | some u =>
      rw [hK b u q] at e
      cases e
  have hKb : K.In (hidT s₁.heap H) := fun b o e => base_of (KX b o e) (nK b o e)
  have hM : Mod K mg (hidT s₁.heap H) := ⟨hKb, nsK hns, ⟨mb, nsK hb, hbb⟩, let ⟨mc, h1, h2⟩ := hlim; ⟨mc, nsK h1, h2⟩⟩
  have e0 : Env0 P w K mg (hidT s₁.heap H) callerA [] s₁ H := ⟨rfl, hM, fun b o e => of_hidT e, Nat.le_of_eq (hidT_size _ _), trivial, fun b hb => absurd (show b ∈ ([] : List Addr) from hb) (by simp), hok, .of_eq hg⟩
  have hl : vals.length = ps.length := by rw [wellAll_len hwl]; exact hlen
  refine codeAny_mono ((F _ hKb (nsK hns)).run callerA [] s₁ H ⟨vals, []⟩ vals (vals.map toV) _ _ hr e0 (hbind s₁ vals hl) hV (hsp H _ hO hS)) fun r s' x => ?_
  cases r with
  | error e => exact (hCX H e s' x).elim
  | ok fl =>
    cases fl with
    | next => exact False.elim x
    | brk => exact False.elim x
    | cont => exact False.elim x
    | ret u =>
      obtain ⟨v, H', os, bare, un, hok', r', q⟩ := x
      have kept : ∀ b o, s₁.heap.get? b = some o → s'.heap.get? b = some o := fun b o e => by
        cases q2 : H b with
        | none => exact un.keep b o e q2 (by intro z; exact absurd (show b ∈ ([] : List Addr) from z) (by simp)) (by simp)
        | some u2 =>
          rcases hO b with z | ⟨ob, u3, z⟩
          · rw [q2] at z
            cases z
          · have z2 := un.frzs b ob _ z
            obtain ⟨e1, _⟩ := hok b _ z
            obtain ⟨e2, _⟩ := hok' b _ z2
            rw [e] at e1
            cases e1
            exact e2
      have KX' : K.In s'.heap := fun b o e => kept b o (KX b o e)
      obtain ⟨as, hrd⟩ := Dw.reads (R := R) (cl := cl) hok' KX' d0 v u q r'
      exact ⟨u, as, rfl, hrd, OldK.of_keep kept, os, bare⟩
/-! ### the row -/
theorem layable_weight {ds : List WData} (h : WData.layableAll ds = true) : ∀ d ∈ ds, d.weight ≤ 1048576 := fun d hd =>
  (PySem.W.layableW_iff.mp (List.all_eq_true.mp h d hd)).2.2
theorem encAll_len : ∀ (cs : List Codec) (a : Codec.denoteAll cs), (Codec.encAll cs a).length = cs.length
  | [], _ => rfl
  | c :: cs, a => by
    show (Codec.encAll cs a.2).length + 1 = cs.length + 1
    rw [encAll_len cs a.2]
/-- the goal that k_headS leaves (case hc), from the promise of the row's def: whatever the arguments that the codecs let and the row asks for, the def gives what stands for enc (f ..) -/
theorem walk_spec {r : OpenSpec} {k : Nat} {q : Program} {loose : List Str} {XP : (Str → Option Value) → Heap → Prop} {YP : World → Heap → Prop} {d : DefRec} {K : Params → PySem.W.Frag} {CX : World → CXT} {ps : List Str} {sp : World → Sp}
    (hwell : r.wellSaid = true) (hdf : d.params.defaults = []) (hlen : r.args.length = ps.length) (hr : Room k callerA)
    (hY : ∀ (w : World) (h : Heap), YP w h → (K w.params).In h)
    (F : ∀ (w : World) (mg : Str → Option Value) (fa : Addr) (h : Heap), YP w h → (K w.params).In h → h.Ns mainGlobals mg → mg d.name = some (.ref fa) →
      ∃ fd : FuncData, (∀ (s : Shared) (us : List Value), us.length = ps.length → BindsTo s fd ⟨us, []⟩ (ps.zip us)) ∧
        ∀ base : Heap, (K w.params).In base → base.Ns mainGlobals mg → FnOk r.prog w (K w.params) mg base (CX w) k fa fd ps (sp w))
    (hsp : ∀ (w : World) (H : Hp) (xs : List V) (a : Codec.denoteAll r.args), OnlyF H → Codec.withinAll r.args a = true → Codec.app r.args r.asked a = true → DwAll (K w.params) H xs (Codec.encAll r.args a) →
      sp w xs H (fun v H' => Dw (K w.params) H' v (r.ret.enc (Codec.app r.args r.f a))) fun _ _ _ => False)
    (hCX : ∀ (w : World) (H : Hp) (s : Shared) (e : Value) (s' : Shared), CX w [] H s (fun _ _ _ => False) e s' → False) :
    PySem.W.WalkOS q loose XP YP r d [] (fun f vs => PySem.call f vs) := by
  intro w s_0 s₁ mg mb G Y fa o pm cd doc dV kV ho hd hcd hD hmg hg args vals as hpre hlay hrd hwl hlo
  obtain ⟨a, e1, e2⟩ := PySem.W.os_pre_some hpre
  obtain ⟨e3, hwi⟩ := Codec.encAll_of_decAll r.args args a e1
  subst e3
  have KX := hY w _ Y
  obtain ⟨fd, hb, hF⟩ := F w mg fa _ Y KX G.T.g hmg
  refine PySem.W.enter_call (codeAny_mono (spec_call (R := []) (cl := classAt s_0.heap) (d0 := r.ret.enc (Codec.app r.args r.f a)) KX G.T.g G.T.b G.T.builtins G.T.nolimit hg hwl (pl_encAll _ _) (layable_weight hlay) hr hF hb (by rw [encAll_len]; exact hlen)
    (fun H xs hO hS => hsp w H xs a hO hwi e2 hS) fun H e s' => hCX w H s₁ e s') fun r' s' hq => ?_)
  obtain ⟨u, as', rfl, h1, h2, h3, h4⟩ := hq
  exact ⟨.inl ⟨u, _, as', rfl, fun _ => rfl, h1, (OpenSpec.post_iff hwell hwi _ _).mpr rfl, fun z => Bool.noConfusion (show false = true from z)⟩, h2, h3, h4⟩
/-- the same where the promise hangs on the written part alone -/
theorem walk_specK {r : OpenSpec} {k : Nat} {q : Program} {loose : List Str} {XP : (Str → Option Value) → Heap → Prop} {YP : World → Heap → Prop} {d : DefRec} {K : Params → PySem.W.Frag} {CX : CXT} {ps : List Str} {sp : PySem.W.Frag → Sp}
    (hwell : r.wellSaid = true) (hdf : d.params.defaults = []) (hlen : r.args.length = ps.length) (hr : Room k callerA)
    (hY : ∀ (w : World) (h : Heap), YP w h → (K w.params).In h)
    (F : ∀ (w : World) (mg : Str → Option Value) (fa : Addr) (h : Heap), YP w h → (K w.params).In h → h.Ns mainGlobals mg → mg d.name = some (.ref fa) →
      ∃ fd : FuncData, (∀ (s : Shared) (us : List Value), us.length = ps.length → BindsTo s fd ⟨us, []⟩ (ps.zip us)) ∧
        ∀ base : Heap, (K w.params).In base → base.Ns mainGlobals mg → FnOk r.prog w (K w.params) mg base CX k fa fd ps (sp (K w.params)))
    (hsp : ∀ (K : PySem.W.Frag) (H : Hp) (xs : List V) (a : Codec.denoteAll r.args), OnlyF H → Codec.withinAll r.args a = true → Codec.app r.args r.asked a = true → DwAll K H xs (Codec.encAll r.args a) →
      sp K xs H (fun v H' => Dw K H' v (r.ret.enc (Codec.app r.args r.f a))) fun _ _ _ => False)
    (hCX : ∀ (H : Hp) (s : Shared) (e : Value) (s' : Shared), CX [] H s (fun _ _ _ => False) e s' → False) :
    PySem.W.WalkOS q loose XP YP r d [] (fun f vs => PySem.call f vs) :=
  walk_spec (K := K) (CX := fun _ => CX) (sp := fun w => sp (K w.params)) hwell hdf hlen hr hY F (fun w H xs a h1 h2 h3 h4 => hsp (K w.params) H xs a h1 h2 h3 h4) fun _ H s e s' => hCX H s e s'
end L2
end

section
set_option Elab.async false
set_option linter.all false
namespace UM
open Uw82

/-! ### fractions -/
theorem frac_pos {u l : Nat} (hl : 0 < l) : frac u l = ⟨u / Nat.gcd u l, l / Nat.gcd u l⟩ := by
  unfold frac
  by_cases h : u = 0
  · subst h
    rw [if_pos rfl, Nat.gcd_zero_left, Nat.zero_div, Nat.div_self hl]
  · rw [if_neg h]
theorem frac_scale {u l k : Nat} (hl : 0 < l) (hk : 0 < k) : frac (u * k) (l * k) = frac u l := by
  rw [frac_pos hl, frac_pos (Nat.mul_pos hl hk), Nat.gcd_mul_right, Nat.mul_div_mul_right _ _ hk, Nat.mul_div_mul_right _ _ hk]
/-- what a fraction stands for -/
theorem frac_parts {u l : Nat} (hl : 0 < l) : ∃ g, 0 < g ∧ u = (frac u l).u * g ∧ l = (frac u l).l * g ∧ 0 < (frac u l).l := by
  refine ⟨Nat.gcd u l, Nat.gcd_pos_of_pos_right _ hl, ?_, ?_, ?_⟩
  · rw [frac_pos hl]; exact (Nat.div_mul_cancel (Nat.gcd_dvd_left u l)).symm
  · rw [frac_pos hl]; exact (Nat.div_mul_cancel (Nat.gcd_dvd_right u l)).symm
  · rw [frac_pos hl]; exact Nat.div_pos (Nat.le_of_dvd hl (Nat.gcd_dvd_right u l)) (Nat.gcd_pos_of_pos_right _ hl)
theorem plus_frac {a b c d : Nat} (hb : 0 < b) (hd : 0 < d) : plus (frac a b) (frac c d) = frac (a * d + c * b) (b * d) := by
  obtain ⟨g, hg, ea, eb, pb⟩ := frac_parts (u := a) hb
  obtain ⟨h, hh, ec, ed, pd⟩ := frac_parts (u := c) hd
  unfold plus
  generalize (frac a b).u = a' at *
  generalize (frac a b).l = b' at *
  generalize (frac c d).u = c' at *
  generalize (frac c d).l = d' at *
  subst ea eb ec ed
  rw [← frac_scale (u := a' * d' + c' * b') (l := b' * d') (k := g * h) (Nat.mul_pos pb pd) (Nat.mul_pos hg hh)]
  congr 1
  · grind
  · grind
theorem times_frac {a b c d : Nat} (hb : 0 < b) (hd : 0 < d) : times (frac a b) (frac c d) = frac (a * c) (b * d) := by
  obtain ⟨g, hg, ea, eb, pb⟩ := frac_parts (u := a) hb
  obtain ⟨h, hh, ec, ed, pd⟩ := frac_parts (u := c) hd
  unfold times
  generalize (frac a b).u = a' at *
  generalize (frac a b).l = b' at *
  generalize (frac c d).u = c' at *
  generalize (frac c d).l = d' at *
  subst ea eb ec ed
  rw [← frac_scale (u := a' * c') (l := b' * d') (k := g * h) (Nat.mul_pos pb pd) (Nat.mul_pos hg hh)]
  congr 1
  · grind
  · grind
theorem plus_same {a c d : Nat} (hd : 0 < d) : plus (frac a d) (frac c d) = frac (a + c) d := by
  rw [plus_frac hd hd, ← Nat.add_mul, frac_scale hd hd]
theorem frac_one (n : Nat) : (⟨n, 1⟩ : Frac) = frac n 1 := by
  rw [frac_pos Nat.one_pos, Nat.gcd_one_right, Nat.div_one, Nat.div_one]
theorem frac_zero (d : Nat) : (⟨0, 1⟩ : Frac) = frac 0 d := by unfold frac; rw [if_pos rfl]

/-! ### totals -/
theorem total_eq (l : List Nat) : total l = l.sum := by
  unfold total
  rw [List.sum_eq_foldl]
theorem total_nil : total [] = 0 := rfl
theorem total_cons (a : Nat) (l : List Nat) : total (a :: l) = a + total l := by
  rw [total_eq, total_eq, List.sum_cons]
theorem total_set : ∀ (l : List Nat) (i v : Nat), i < l.length → total (l.set i v) + l.getD i 0 = total l + v
  | [], i, v, h => absurd h (Nat.not_lt_zero _)
  | a :: l, 0, v, h => by
    show total (v :: l) + a = total (a :: l) + v
    rw [total_cons, total_cons]; omega
  | a :: l, i + 1, v, h => by
    have ih := total_set l i v (Nat.lt_of_succ_lt_succ h)
    show total (a :: l.set i v) + (a :: l).getD (i + 1) 0 = total (a :: l) + v
    rw [total_cons, total_cons, List.getD_cons_succ]
    omega
theorem getD_le_total : ∀ (l : List Nat) (i : Nat), l.getD i 0 ≤ total l
  | [], i => by simp [total]
  | a :: l, 0 => by rw [total_cons]; simp
  | a :: l, i + 1 => by
    rw [total_cons, List.getD_cons_succ]
    exact Nat.le_trans (getD_le_total l i) (Nat.le_add_left _ _)
theorem getD_set (l : List Nat) (i j v : Nat) (h : i < l.length) : (l.set i v).getD j 0 = if i = j then v else l.getD j 0 := by
  rw [List.getD_eq_getElem?_getD, List.getD_eq_getElem?_getD, List.getElem?_set]
  by_cases e : i = j
  · subst e; rw [if_pos rfl, if_pos rfl, if_pos h]; rfl
  · rw [if_neg e, if_neg e]

/-! ### draws -/
theorem less_len (s : Urn) (a : Nat) : (less s a).length = s.length := by unfold less; rw [List.length_set]
theorem more_len (s : Urn) (a : Nat) : (more s a).length = s.length := by unfold more; rw [List.length_set]
theorem drawn_len (r : Rule) (s : Urn) (a b : Nat) : (drawn r s a b).length = s.length := by unfold drawn; rw [more_len, less_len, less_len]
theorem there_iff {s : Urn} {a b : Nat} (ha : a < s.length) (hb : b < s.length) : areThere s a b = true ↔ (1 ≤ s.getD a 0 ∧ 1 ≤ s.getD b 0 ∧ (a = b → 2 ≤ s.getD a 0)) := by
  unfold areThere less
  rw [getD_set _ _ _ _ ha, Bool.and_eq_true, decide_eq_true_iff, decide_eq_true_iff]
  by_cases e : a = b
  · subst e; rw [if_pos rfl]; constructor
    · rintro ⟨h1, h2⟩; exact ⟨h1, h1, fun _ => by omega⟩
    · rintro ⟨h1, _, h2⟩; exact ⟨h1, by have := h2 rfl; omega⟩
  · rw [if_neg e]; constructor
    · rintro ⟨h1, h2⟩; exact ⟨h1, h2, fun q => absurd q e⟩
    · rintro ⟨h1, h2, _⟩; exact ⟨h1, h2⟩
theorem total_drawn {r : Rule} {s : Urn} {a b : Nat} (ha : a < s.length) (hb : b < s.length) (hc : comesOf r a b < s.length) (h : areThere s a b = true) : total (drawn r s a b) + 1 = total s := by
  obtain ⟨h1, h2, h3⟩ := (there_iff ha hb).mp h
  have e1 := total_set s a (s.getD a 0 - 1) ha
  have e2 := total_set (less s a) b ((less s a).getD b 0 - 1) (by rw [less_len]; exact hb)
  have e3 := total_set (less (less s a) b) (comesOf r a b) ((less (less s a) b).getD (comesOf r a b) 0 + 1) (by rw [less_len, less_len]; exact hc)
  have e4 : (less s a).getD b 0 = if a = b then s.getD a 0 - 1 else s.getD b 0 := by unfold less; rw [getD_set _ _ _ _ ha]
  have f1 : total (less s a) = total (s.set a (s.getD a 0 - 1)) := rfl
  have f2 : total (less (less s a) b) = total ((less s a).set b ((less s a).getD b 0 - 1)) := rfl
  have f3 : total (drawn r s a b) = total ((less (less s a) b).set (comesOf r a b) ((less (less s a) b).getD (comesOf r a b) 0 + 1)) := rfl
  by_cases e : a = b
  · rw [if_pos e] at e4
    have := h3 e
    omega
  · rw [if_neg e] at e4
    omega
theorem two_half (n : Nat) : n * (n - 1) / 2 + n * (n - 1) / 2 = n * (n - 1) := by
  have h : n * (n - 1) % 2 = 0 := by
    cases n with
    | zero => rfl
    | succ n =>
      rw [Nat.add_sub_cancel]
      rcases Nat.mod_two_eq_zero_or_one n with h | h
      · rw [Nat.mul_mod, h, Nat.mul_zero]; 
      · rw [Nat.mul_mod, Nat.add_mod, h]
  omega
theorem pairs_pos {s : Urn} {a b : Nat} (ha : a < s.length) (hb : b < s.length) : pairs s a b = 0 ↔ areThere s a b = false := by
  have key : pairs s a b ≠ 0 ↔ areThere s a b = true := by
    rw [there_iff ha hb]
    unfold pairs
    by_cases e : a = b
    · subst e
      rw [if_pos rfl]
      generalize s.getD a 0 = n
      have h2 := two_half n
      constructor
      · intro h
        have h3 : 2 ≤ n := by
          rcases n with _ | _ | n
          · simp at h
          · simp at h
          · omega
        exact ⟨by omega, by omega, fun _ => h3⟩
      · rintro ⟨_, _, h⟩
        have h3 := h rfl
        have : 2 * 1 ≤ n * (n - 1) := Nat.mul_le_mul h3 (by omega)
        omega
    · rw [if_neg e]
      constructor
      · intro h
        refine ⟨?_, ?_, fun q => absurd q e⟩
        · rcases Nat.eq_zero_or_pos (s.getD a 0) with z | z
          · rw [z, Nat.zero_mul] at h; exact absurd rfl h
          · exact z
        · rcases Nat.eq_zero_or_pos (s.getD b 0) with z | z
          · rw [z, Nat.mul_zero] at h; exact absurd rfl h
          · exact z
      · rintro ⟨h1, h2, _⟩
        exact Nat.ne_of_gt (Nat.mul_pos h1 h2)
  cases h : areThere s a b with
  | true => rw [h] at key; constructor
            · intro q; exact absurd q (key.mpr rfl)
            · intro q; cases q
  | false => rw [h] at key; constructor
             · intro _; rfl
             · intro _
               rcases Nat.decEq (pairs s a b) 0 with q | q
               · exact absurd (key.mp q) (by simp)
               · exact q
/-- all twos -/
def tri (n : Nat) : Nat := n * (n - 1) / 2
theorem tri_succ (n : Nat) : tri (n + 1) = tri n + n := by
  have h1 := two_half n
  have h2 := two_half (n + 1)
  unfold tri
  have h3 : (n + 1) * (n + 1 - 1) = n * (n - 1) + 2 * n := by
    cases n with
    | zero => rfl
    | succ n => simp only [Nat.add_sub_cancel]; grind
  omega
theorem tri_add (x y : Nat) : tri (x + y) = tri x + tri y + x * y := by
  induction y with
  | zero => simp [tri]
  | succ y ih => rw [← Nat.add_assoc, tri_succ, ih, tri_succ, Nat.mul_succ]; omega
theorem tri_pos {n : Nat} (h : 2 ≤ n) : 0 < tri n := by
  have h1 := two_half n
  have : 2 * 1 ≤ n * (n - 1) := Nat.mul_le_mul h (by omega)
  unfold tri
  omega
/-- every two balls, told by their colours -/
theorem pairs_all {s : Urn} (h2 : 2 ≤ s.length) (h4 : s.length ≤ 4) : ((twos s.length).map fun y => pairs s y.1 y.2).sum = tri (total s) := by
  match s, h2, h4 with
  | [x, y], _, _ =>
    show (pairs [x, y] 0 0 + (pairs [x, y] 0 1 + (pairs [x, y] 1 1 + 0))) = _
    simp only [total_cons, total_nil, tri_add]
    show (tri x + (x * y + (tri y + 0))) = _
    simp [tri]
    omega
  | [x, y, z], _, _ =>
    show (pairs [x, y, z] 0 0 + (pairs [x, y, z] 0 1 + (pairs [x, y, z] 0 2 + (pairs [x, y, z] 1 1 + (pairs [x, y, z] 1 2 + (pairs [x, y, z] 2 2 + 0)))))) = _
    simp only [total_cons, total_nil, tri_add]
    show (tri x + (x * y + (x * z + (tri y + (y * z + (tri z + 0)))))) = _
    have : tri 0 = 0 := rfl
    grind
  | [x, y, z, t], _, _ =>
    show (pairs [x, y, z, t] 0 0 + (pairs [x, y, z, t] 0 1 + (pairs [x, y, z, t] 0 2 + (pairs [x, y, z, t] 0 3 + (pairs [x, y, z, t] 1 1 + (pairs [x, y, z, t] 1 2 + (pairs [x, y, z, t] 1 3 + (pairs [x, y, z, t] 2 2 + (pairs [x, y, z, t] 2 3 + (pairs [x, y, z, t] 3 3 + 0)))))))))) = _
    simp only [total_cons, total_nil, tri_add]
    show (tri x + (x * y + (x * z + (x * t + (tri y + (y * z + (y * t + (tri z + (z * t + (tri t + 0)))))))))) = _
    have : tri 0 = 0 := rfl
    grind
end UM

namespace UM
open Uw82

/-! ### urns and the ways to each -/
abbrev Ways := List (Urn × Nat)
def wput : Ways → Urn → Nat → Ways
  | [], s, n => [(s, n)]
  | (t, m) :: r, s, n => if t = s then (t, m + n) :: r else (t, m) :: wput r s n
def wdraw1 (r : Rule) (s : Urn) (ways : Nat) (m : Ways) (y : Nat × Nat) : Ways := if pairs s y.1 y.2 = 0 then m else wput m (drawn r s y.1 y.2) (ways * pairs s y.1 y.2)
def wdraws (r : Rule) (s : Urn) (ways : Nat) (m : Ways) : Ways := (twos r.k).foldl (wdraw1 r s ways) m
def wblind (r : Rule) (l : Ways) : Ways := l.foldl (fun m x => wdraws r x.1 x.2 m) []
def wblinds (r : Rule) : Nat → Ways → Ways
  | 0, l => l
  | n + 1, l => wblinds r n (wblind r l)
theorem wblinds_succ (r : Rule) : ∀ (n : Nat) (l : Ways), wblinds r (n + 1) l = wblind r (wblinds r n l)
  | 0, l => rfl
  | n + 1, l => by
    show wblinds r (n + 1) (wblind r l) = _
    rw [wblinds_succ r n (wblind r l)]
    rfl
def wsum (l : Ways) : Nat := (l.map (·.2)).sum
def ukeys (l : Ways) : List Urn := l.map (·.1)
theorem wsum_put : ∀ (l : Ways) (s : Urn) (n : Nat), wsum (wput l s n) = wsum l + n
  | [], s, n => by simp [wput, wsum]
  | (t, m) :: r, s, n => by
    have ih := wsum_put r s n
    unfold wput
    split
    · simp only [wsum, List.map_cons, List.sum_cons]; omega
    · simp only [wsum, List.map_cons, List.sum_cons] at ih ⊢; omega
theorem mem_put {x : Urn} : ∀ {l : Ways} {s : Urn} {n : Nat}, x ∈ ukeys (wput l s n) ↔ x ∈ ukeys l ∨ x = s
  | [], s, n => by simp [wput, ukeys]
  | (t, m) :: r, s, n => by
    have ih := mem_put (x := x) (l := r) (s := s) (n := n)
    unfold wput
    split
    · rename_i e
      subst e
      simp only [ukeys, List.map_cons, List.mem_cons]
      constructor
      · exact fun h => .inl h
      · rintro (h | h)
        · exact h
        · exact .inl h
    · simp only [ukeys, List.map_cons, List.mem_cons] at ih ⊢
      rw [ih, or_assoc]
theorem keys_put : ∀ (l : Ways) (s : Urn) (n : Nat), ukeys (wput l s n) = if s ∈ ukeys l then ukeys l else ukeys l ++ [s]
  | [], s, n => rfl
  | (t, m) :: r, s, n => by
    have ih := keys_put r s n
    unfold wput
    split
    · rename_i e
      subst e
      rw [if_pos (by simp [ukeys])]
      rfl
    · rename_i e
      show t :: ukeys (wput r s n) = _
      rw [ih]
      by_cases h : s ∈ ukeys r
      · rw [if_pos h, if_pos (show s ∈ ukeys ((t, m) :: r) from List.mem_cons_of_mem _ h)]
        rfl
      · rw [if_neg h, if_neg (show ¬ s ∈ ukeys ((t, m) :: r) by
          intro q
          rcases List.mem_cons.mp q with q | q
          · exact e q.symm
          · exact h q)]
        rfl
theorem nodup_put {l : Ways} {s : Urn} {n : Nat} (h : (ukeys l).Nodup) : (ukeys (wput l s n)).Nodup := by
  rw [keys_put]
  split
  · exact h
  · rename_i q
    rw [List.nodup_append]
    refine ⟨h, by simp, ?_⟩
    intro a ha b hb e
    rw [List.mem_singleton] at hb
    subst hb e
    exact q ha
theorem len_put (l : Ways) (s : Urn) (n : Nat) : (wput l s n).length ≤ l.length + 1 := by
  have h := congrArg List.length (keys_put l s n)
  unfold ukeys at h
  rw [List.length_map] at h
  rw [h]
  split <;> simp

/-! ### the same as lists of pairs, put in one after another -/
def hits (r : Rule) (s : Urn) (ways : Nat) : Ways := (twos r.k).filterMap fun y => if pairs s y.1 y.2 = 0 then none else some (drawn r s y.1 y.2, ways * pairs s y.1 y.2)
def wputs (m : Ways) (l : Ways) : Ways := l.foldl (fun m x => wput m x.1 x.2) m
theorem foldl_hits (r : Rule) (s : Urn) (ways : Nat) : ∀ (l : List (Nat × Nat)) (m : Ways), l.foldl (wdraw1 r s ways) m = wputs m (l.filterMap fun y => if pairs s y.1 y.2 = 0 then none else some (drawn r s y.1 y.2, ways * pairs s y.1 y.2))
  | [], m => rfl
  | y :: l, m => by
    rw [List.foldl_cons, foldl_hits r s ways l, List.filterMap_cons]
    unfold wdraw1
    by_cases h : pairs s y.1 y.2 = 0
    · simp only [if_pos h]
    · simp only [if_neg h]
      rfl
theorem wdraws_eq (r : Rule) (s : Urn) (ways : Nat) (m : Ways) : wdraws r s ways m = wputs m (hits r s ways) := foldl_hits r s ways _ m
theorem wputs_append (m a b : Ways) : wputs m (a ++ b) = wputs (wputs m a) b := List.foldl_append
theorem fold_hits (r : Rule) : ∀ (l m : Ways), l.foldl (fun m x => wdraws r x.1 x.2 m) m = wputs m (l.flatMap fun x => hits r x.1 x.2)
  | [], m => rfl
  | x :: l, m => by
    rw [List.foldl_cons, fold_hits r l, wdraws_eq, List.flatMap_cons, wputs_append]
theorem wblind_eq (r : Rule) (l : Ways) : wblind r l = wputs [] (l.flatMap fun x => hits r x.1 x.2) := fold_hits r l []
theorem wsum_puts : ∀ (l m : Ways), wsum (wputs m l) = wsum m + wsum l
  | [], m => by simp [wputs, wsum]
  | x :: l, m => by
    show wsum (wputs (wput m x.1 x.2) l) = _
    rw [wsum_puts l, wsum_put]
    simp only [wsum, List.map_cons, List.sum_cons]
    omega
theorem mem_puts {x : Urn} : ∀ {l m : Ways}, x ∈ ukeys (wputs m l) ↔ x ∈ ukeys m ∨ x ∈ ukeys l
  | [], m => by simp [wputs, ukeys]
  | y :: l, m => by
    show x ∈ ukeys (wputs (wput m y.1 y.2) l) ↔ _
    rw [mem_puts (l := l), mem_put]
    simp only [ukeys, List.map_cons, List.mem_cons]
    rw [or_assoc]
theorem nodup_puts : ∀ {l m : Ways}, (ukeys m).Nodup → (ukeys (wputs m l)).Nodup
  | [], m, h => h
  | y :: l, m, h => nodup_puts (l := l) (m := wput m y.1 y.2) (nodup_put h)
theorem len_puts : ∀ (l m : Ways), (wputs m l).length ≤ m.length + l.length
  | [], m => Nat.le_refl _
  | y :: l, m => by
    have h1 := len_puts l (wput m y.1 y.2)
    have h2 := len_put m y.1 y.2
    show (wputs (wput m y.1 y.2) l).length ≤ _
    rw [List.length_cons]
    omega
theorem loop_keys : ∀ (l m : Ways), List.eraseDupsBy.loop (fun a b => a == b) (ukeys l) (ukeys m).reverse = ukeys (wputs m l)
  | [], m => by
    show (ukeys m).reverse.reverse = ukeys m
    rw [List.reverse_reverse]
  | y :: l, m => by
    show List.eraseDupsBy.loop _ (y.1 :: ukeys l) _ = ukeys (wputs (wput m y.1 y.2) l)
    rw [← loop_keys l (wput m y.1 y.2), keys_put, List.eraseDupsBy.loop]
    by_cases h : y.1 ∈ ukeys m
    · rw [if_pos h]
      have e : ((ukeys m).reverse.any fun b => y.1 == b) = true := List.any_eq_true.mpr ⟨y.1, List.mem_reverse.mpr h, beq_self_eq_true _⟩
      rw [e]
    · rw [if_neg h]
      have e : ((ukeys m).reverse.any fun b => y.1 == b) = false := by
        rw [List.any_eq_false]
        intro b hb q
        rw [eq_of_beq q] at h
        exact h (List.mem_reverse.mp hb)
      rw [e, List.reverse_append]
      rfl
theorem dedup_keys (l : Ways) : (ukeys l).eraseDups = ukeys (wputs [] l) := loop_keys l []

/-! ### what is true of a good rule -/
structure GoodR (r : Rule) : Prop where
  k2 : 2 ≤ r.k
  k4 : r.k ≤ 4
  len : r.table.length = r.k * r.k
  small : ∀ x ∈ r.table, x < r.k
theorem spot_lt {k a b : Nat} (ha : a < k) (hb : b < k) : spot k a b < k * k := by
  unfold spot
  have h1 : min a b + 1 ≤ k := by omega
  have h2 : max a b < k := by omega
  have h3 : (min a b + 1) * k ≤ k * k := Nat.mul_le_mul_right k h1
  rw [Nat.add_mul, Nat.one_mul] at h3
  omega
theorem GoodR.lt {r : Rule} (G : GoodR r) {a b : Nat} (ha : a < r.k) (hb : b < r.k) : comesOf r a b < r.k := by
  have h := spot_lt ha hb
  unfold comesOf
  rw [List.getD_eq_getElem?_getD, List.getElem?_eq_getElem (by rw [G.len]; exact h)]
  exact G.small _ (List.getElem_mem _)
theorem mem_twos {k a b : Nat} : (a, b) ∈ twos k ↔ a < k ∧ b < k ∧ a ≤ b := by
  unfold twos
  simp only [List.mem_flatMap, List.mem_filterMap, List.mem_range]
  constructor
  · rintro ⟨x, hx, y, hy, h⟩
    split at h
    · cases h; exact ⟨hx, hy, by assumption⟩
    · cases h
  · rintro ⟨ha, hb, h⟩
    exact ⟨a, ha, b, hb, by rw [if_pos h]⟩
/-- urns of k colours and n balls -/
def AllN (k n : Nat) (l : List Urn) : Prop := ∀ s ∈ l, s.length = k ∧ total s = n
theorem hits_all {r : Rule} {s : Urn} {w n : Nat} (G : GoodR r) (hl : s.length = r.k) (ht : total s = n + 1) : AllN r.k n (ukeys (hits r s w)) := by
  intro t m
  unfold ukeys hits at m
  simp only [List.mem_map, List.mem_filterMap] at m
  obtain ⟨x, ⟨⟨a, b⟩, hy, h⟩, rfl⟩ := m
  obtain ⟨ha, hb, _⟩ := mem_twos.mp hy
  split at h
  · cases h
  · rename_i p
    cases h
    have e : areThere s a b = true := by
      cases q : areThere s a b with
      | true => rfl
      | false => exact absurd ((pairs_pos (by rw [hl]; exact ha) (by rw [hl]; exact hb)).mpr q) p
    refine ⟨by rw [drawn_len, hl], ?_⟩
    have := total_drawn (r := r) (by rw [hl]; exact ha) (by rw [hl]; exact hb) (by rw [hl]; exact G.lt ha hb) e
    show total (drawn r s a b) = n
    omega
theorem wblind_all {r : Rule} {l : Ways} {n : Nat} (G : GoodR r) (h : AllN r.k (n + 1) (ukeys l)) : AllN r.k n (ukeys (wblind r l)) := by
  intro t m
  rw [wblind_eq, mem_puts] at m
  rcases m with m | m
  · simp [ukeys] at m
  · unfold ukeys at m
    rw [List.mem_map] at m
    obtain ⟨x, hx, rfl⟩ := m
    rw [List.mem_flatMap] at hx
    obtain ⟨y, hy, hx⟩ := hx
    obtain ⟨h1, h2⟩ := h y.1 (List.mem_map.mpr ⟨y, hy, rfl⟩)
    exact hits_all G h1 h2 x.1 (List.mem_map.mpr ⟨x, hx, rfl⟩)
theorem sum_hits (f : Nat × Nat → Nat) (g : Nat × Nat → Urn) (w : Nat) : ∀ l : List (Nat × Nat), wsum (l.filterMap fun y => if f y = 0 then none else some (g y, w * f y)) = w * (l.map f).sum
  | [] => by simp [wsum]
  | y :: l => by
    have ih := sum_hits f g w l
    rw [List.filterMap_cons, List.map_cons, List.sum_cons]
    by_cases h : f y = 0
    · simp only [if_pos h, h, Nat.zero_add]; exact ih
    · simp only [if_neg h]
      show w * f y + wsum _ = _
      rw [ih, Nat.mul_add]
theorem wsum_hits {r : Rule} {s : Urn} {w n : Nat} (G : GoodR r) (hl : s.length = r.k) (ht : total s = n) : wsum (hits r s w) = w * tri n := by
  have e := pairs_all (s := s) (by rw [hl]; exact G.k2) (by rw [hl]; exact G.k4)
  rw [hl, ht] at e
  rw [← e]
  exact sum_hits (fun y => pairs s y.1 y.2) (fun y => drawn r s y.1 y.2) w _
theorem wsum_append (a b : Ways) : wsum (a ++ b) = wsum a + wsum b := by
  unfold wsum
  rw [List.map_append, List.sum_append]
theorem wsum_flat {r : Rule} {n : Nat} (G : GoodR r) : ∀ {l : Ways}, AllN r.k n (ukeys l) → wsum (l.flatMap fun x => hits r x.1 x.2) = wsum l * tri n
  | [], _ => by simp [wsum]
  | x :: l, h => by
    obtain ⟨h1, h2⟩ := h x.1 (by simp [ukeys])
    rw [List.flatMap_cons, wsum_append, wsum_hits G h1 h2, wsum_flat G (l := l) fun s m => h s (List.mem_cons_of_mem _ m)]
    simp only [wsum, List.map_cons, List.sum_cons, Nat.add_mul]
theorem wsum_blind {r : Rule} {l : Ways} {n : Nat} (G : GoodR r) (h : AllN r.k n (ukeys l)) : wsum (wblind r l) = wsum l * tri n := by
  rw [wblind_eq, wsum_puts, wsum_flat G h]
  simp [wsum]

/-! ### the same with fractions: blind -/
def lik (D : Nat) (l : Ways) : Likely := l.map fun x => (x.1, frac x.2 D)
theorem put_nil (s : Urn) (f : Frac) : put [] s f = [(s, f)] := rfl
theorem put_cons (x : Urn × Frac) (l : Likely) (s : Urn) (f : Frac) : put (x :: l) s f = if x.1 = s then (x.1, plus x.2 f) :: l else x :: put l s f := by
  unfold put
  rw [List.findIdx?_cons]
  by_cases h : x.1 = s
  · rw [if_pos h]
    have e : (x.1 == s) = true := by rw [h]; exact beq_self_eq_true s
    simp only [e, if_true]
    rfl
  · rw [if_neg h]
    have e : (x.1 == s) = false := beq_eq_false_iff_ne.mpr h
    simp only [e]
    cases q : List.findIdx? (fun x => x.1 == s) l with
    | none => simp
    | some i => simp
theorem put_lik {D : Nat} (hD : 0 < D) : ∀ (l : Ways) (s : Urn) (n : Nat), put (lik D l) s (frac n D) = lik D (wput l s n)
  | [], s, n => rfl
  | (t, m) :: l, s, n => by
    show put ((t, frac m D) :: lik D l) s (frac n D) = _
    rw [put_cons]
    unfold wput
    by_cases h : t = s
    · rw [if_pos h, if_pos h]
      show (t, plus (frac m D) (frac n D)) :: _ = _
      rw [plus_same hD]
      rfl
    · rw [if_neg h, if_neg h, put_lik hD l]
      rfl
theorem blind_twos {r : Rule} {s : Urn} {w D N : Nat} (hD : 0 < D) (hN : 0 < N) : ∀ (l : List (Nat × Nat)) (m : Ways),
    l.foldl (fun m y => let p := pairs s y.1 y.2
      if p = 0 then m else put m (drawn r s y.1 y.2) (times (frac w D) (frac p N))) (lik (D * N) m) = lik (D * N) (l.foldl (wdraw1 r s w) m)
  | [], m => rfl
  | y :: l, m => by
    rw [List.foldl_cons, List.foldl_cons]
    show List.foldl _ (if pairs s y.1 y.2 = 0 then lik (D * N) m else put (lik (D * N) m) (drawn r s y.1 y.2) (times (frac w D) (frac (pairs s y.1 y.2) N))) l = _
    rw [times_frac hD hN]
    unfold wdraw1
    by_cases h : pairs s y.1 y.2 = 0
    · rw [if_pos h, if_pos h]
      exact blind_twos hD hN l m
    · rw [if_neg h, if_neg h, put_lik (Nat.mul_pos hD hN)]
      exact blind_twos hD hN l _
theorem blind_fold {r : Rule} {D n : Nat} (hD : 0 < D) (hn : 2 ≤ n) : ∀ (l m : Ways), (∀ x ∈ l, total x.1 = n) →
    (lik D l).foldl (fun m x => let n := total x.1
      (twos r.k).foldl (fun m y => let p := pairs x.1 y.1 y.2
        if p = 0 then m else put m (drawn r x.1 y.1 y.2) (times x.2 (frac p (n * (n - 1) / 2)))) m) (lik (D * tri n) m) = lik (D * tri n) (l.foldl (fun m x => wdraws r x.1 x.2 m) m)
  | [], m, _ => rfl
  | x :: l, m, h => by
    have ht := h x (by simp)
    show List.foldl _ ((twos r.k).foldl (fun m y => let p := pairs x.1 y.1 y.2
        if p = 0 then m else put m (drawn r x.1 y.1 y.2) (times (frac x.2 D) (frac p (total x.1 * (total x.1 - 1) / 2)))) (lik (D * tri n) m)) (lik D l) = _
    rw [ht]
    rw [show n * (n - 1) / 2 = tri n from rfl, blind_twos hD (tri_pos hn)]
    exact blind_fold hD hn l _ fun y hy => h y (by simp [hy])
theorem blind_lik {r : Rule} {l : Ways} {n : Nat} (G : GoodR r) (hn : 2 ≤ n) (h : AllN r.k n (ukeys l)) (hD : 0 < wsum l) : blind r (lik (wsum l) l) = lik (wsum (wblind r l)) (wblind r l) := by
  rw [wsum_blind G h]
  exact blind_fold hD hn l [] fun x hx => (h x.1 (List.mem_map.mpr ⟨x, hx, rfl⟩)).2
/-- the ways behind some draws: what holds of them -/
structure WOk (r : Rule) (n : Nat) (l : Ways) : Prop where
  all : AllN r.k n (ukeys l)
  nd : (ukeys l).Nodup
  pos : 0 < wsum l
theorem WOk.next {r : Rule} {n : Nat} {l : Ways} (G : GoodR r) (hn : 1 ≤ n) (h : WOk r (n + 1) l) : WOk r n (wblind r l) := by
  refine ⟨wblind_all G h.all, ?_, ?_⟩
  · rw [wblind_eq]; exact nodup_puts (by simp [ukeys])
  · rw [wsum_blind G h.all]; exact Nat.mul_pos h.pos (tri_pos (by omega))
theorem blinds_lik {r : Rule} (G : GoodR r) : ∀ (j : Nat) {n : Nat} {l : Ways}, WOk r n l → j < n → blinds r j (lik (wsum l) l) = lik (wsum (wblinds r j l)) (wblinds r j l) ∧ WOk r (n - j) (wblinds r j l)
  | 0, n, l, h, _ => ⟨rfl, h⟩
  | j + 1, n, l, h, hj => by
    obtain ⟨n, rfl⟩ : ∃ m, n = m + 1 := ⟨n - 1, by omega⟩
    obtain ⟨i1, i2⟩ := blinds_lik G j (h.next G (by omega)) (by omega)
    refine ⟨?_, by rw [Nat.add_sub_add_right]; exact i2⟩
    show blinds r j (blind r (lik (wsum l) l)) = _
    rw [blind_lik G (by omega) h.all h.pos]
    exact i1
theorem wok_start {r : Rule} {s : Urn} (hl : s.length = r.k) : WOk r (total s) [(s, 1)] := ⟨fun t m => by
    have e : t = s := by simpa [ukeys] using m
    subst e
    exact ⟨hl, rfl⟩, by simp [ukeys], by simp [wsum]⟩
theorem blinds_start {r : Rule} {s : Urn} (G : GoodR r) (hl : s.length = r.k) {j : Nat} (hj : j < total s) :
    blinds r j [(s, ⟨1, 1⟩)] = lik (wsum (wblinds r j [(s, 1)])) (wblinds r j [(s, 1)]) ∧ WOk r (total s - j) (wblinds r j [(s, 1)]) := by
  have e : ([(s, ⟨1, 1⟩)] : Likely) = lik (wsum [(s, 1)]) [(s, 1)] := by
    show _ = [(s, frac 1 (wsum [(s, 1)]))]
    rw [show wsum [(s, 1)] = 1 from rfl, ← frac_one]
  rw [e]
  exact blinds_lik G j (wok_start hl) hj

/-! ### averages, chances -/
def wav (c : Nat) (l : Ways) : Nat := (l.map fun x => x.1.getD c 0 * x.2).sum
theorem avg_fold {D c : Nat} (hD : 0 < D) : ∀ (l : Ways) (acc : Nat), (lik D l).foldl (fun a x => plus a (times x.2 ⟨x.1.getD c 0, 1⟩)) (frac acc D) = frac (acc + wav c l) D
  | [], acc => by simp [lik, wav]
  | x :: l, acc => by
    show (lik D l).foldl _ (plus (frac acc D) (times (frac x.2 D) ⟨x.1.getD c 0, 1⟩)) = _
    rw [frac_one, times_frac hD Nat.one_pos, Nat.mul_one, plus_same hD, avg_fold hD l]
    simp only [wav, List.map_cons, List.sum_cons]
    rw [Nat.mul_comm x.2, Nat.add_assoc]
theorem average_eq {r : Rule} {s : Urn} {m c : Nat} (G : GoodR r) (hl : s.length = r.k) (h1 : 1 ≤ m) (h2 : m ≤ total s) :
    average r s m c = frac (wav c (wblinds r (total s - m) [(s, 1)])) (wsum (wblinds r (total s - m) [(s, 1)])) := by
  obtain ⟨e, ok⟩ := blinds_start G hl (j := total s - m) (by omega)
  unfold average
  rw [e, frac_zero (wsum (wblinds r (total s - m) [(s, 1)])), avg_fold ok.pos, Nat.zero_add]
theorem chance_fold {D c : Nat} (hD : 0 < D) : ∀ (l : Ways) (acc : Nat), (∀ x ∈ l, x.1.getD c 0 ≤ 1) → (lik D l).foldl (fun a x => if x.1.getD c 0 = 1 then plus a x.2 else a) (frac acc D) = frac (acc + wav c l) D
  | [], acc, _ => by simp [lik, wav]
  | x :: l, acc, h => by
    show (lik D l).foldl _ (if x.1.getD c 0 = 1 then plus (frac acc D) (frac x.2 D) else frac acc D) = _
    have hx := h x (by simp)
    have hl := fun y (hy : y ∈ l) => h y (by simp [hy])
    simp only [wav, List.map_cons, List.sum_cons]
    by_cases q : x.1.getD c 0 = 1
    · rw [if_pos q, plus_same hD, chance_fold hD l _ hl, q, Nat.one_mul, Nat.add_assoc]
      rfl
    · rw [if_neg q, chance_fold hD l _ hl, show x.1.getD c 0 = 0 by omega, Nat.zero_mul, Nat.zero_add]
      rfl
theorem chance_eq {r : Rule} {s : Urn} {c : Nat} (G : GoodR r) (hl : s.length = r.k) (h1 : 1 ≤ total s) :
    (blinds r (total s - 1) [(s, ⟨1, 1⟩)]).foldl (fun a x => if x.1.getD c 0 = 1 then plus a x.2 else a) ⟨0, 1⟩ = frac (wav c (wblinds r (total s - 1) [(s, 1)])) (wsum (wblinds r (total s - 1) [(s, 1)])) := by
  obtain ⟨e, ok⟩ := blinds_start G hl (j := total s - 1) (by omega)
  rw [e, frac_zero (wsum (wblinds r (total s - 1) [(s, 1)])), chance_fold ok.pos, Nat.zero_add]
  intro x hx
  have := getD_le_total x.1 c
  have h2 := (ok.all x.1 (List.mem_map.mpr ⟨x, hx, rfl⟩)).2
  omega

/-! ### comes, lasts -/
theorem filterMap_same {α β : Type} {f g : α → Option β} : ∀ {l : List α}, (∀ x ∈ l, f x = g x) → l.filterMap f = l.filterMap g
  | [], _ => rfl
  | a :: l, h => by
    rw [List.filterMap_cons, List.filterMap_cons, h a (by simp), filterMap_same (l := l) fun x hx => h x (by simp [hx])]
theorem keys_hits (r : Rule) {s : Urn} (w : Nat) (hl : s.length = r.k) : ukeys (hits r s w) = (twos r.k).filterMap fun x => if areThere s x.1 x.2 = true then some (drawn r s x.1 x.2) else none := by
  unfold ukeys hits
  rw [List.map_filterMap]
  apply filterMap_same
  rintro ⟨a, b⟩ m
  obtain ⟨ha, hb, _⟩ := mem_twos.mp m
  have e := pairs_pos (s := s) (a := a) (b := b) (by rw [hl]; exact ha) (by rw [hl]; exact hb)
  cases q : areThere s a b with
  | true =>
    have : ¬ pairs s a b = 0 := by rw [e, q]; simp
    simp [this]
  | false =>
    have : pairs s a b = 0 := by rw [e, q]
    simp [this]
theorem keys_flat (r : Rule) : ∀ {l : Ways}, (∀ s ∈ ukeys l, s.length = r.k) → ukeys (l.flatMap fun x => hits r x.1 x.2) = (ukeys l).flatMap fun s => (twos r.k).filterMap fun x => if areThere s x.1 x.2 = true then some (drawn r s x.1 x.2) else none
  | [], _ => rfl
  | x :: l, h => by
    have ih := keys_flat r (l := l) fun s m => h s (List.mem_cons_of_mem _ m)
    rw [List.flatMap_cons]
    show ukeys (_ ++ _) = (x.1 :: ukeys l).flatMap _
    rw [List.flatMap_cons, ← ih, ← keys_hits r x.2 (h x.1 (by simp [ukeys]))]
    unfold ukeys
    rw [List.map_append]
theorem behind_keys {r : Rule} {l : Ways} (h : ∀ s ∈ ukeys l, s.length = r.k) : behind r (ukeys l) = ukeys (wblind r l) := by
  unfold behind
  rw [← keys_flat r h, dedup_keys, wblind_eq]
def sizes (r : Rule) : Nat → Ways → Nat
  | 0, l => l.length
  | n + 1, l => l.length + sizes r n (wblind r l)
theorem sizes_succ (r : Rule) : ∀ (n : Nat) (l : Ways), sizes r (n + 1) l = sizes r n l + (wblinds r (n + 1) l).length
  | 0, l => rfl
  | n + 1, l => by
    show l.length + sizes r (n + 1) (wblind r l) = l.length + sizes r n (wblind r l) + _
    rw [sizes_succ r n (wblind r l), Nat.add_assoc]
    rfl
theorem waves_sizes {r : Rule} (G : GoodR r) : ∀ (j : Nat) {n : Nat} {l : Ways}, WOk r n l → j < n → total ((waves r j (ukeys l)).map List.length) = sizes r j l
  | 0, n, l, _, _ => by
    show total [(ukeys l).length] = l.length
    rw [total_cons, total_nil]
    unfold ukeys
    rw [List.length_map, Nat.add_zero]
  | j + 1, n, l, h, hj => by
    obtain ⟨n, rfl⟩ : ∃ m, n = m + 1 := ⟨n - 1, by omega⟩
    have ih := waves_sizes G j (h.next G (by omega)) (by omega)
    show total ((ukeys l).length :: (waves r j (behind r (ukeys l))).map List.length) = l.length + sizes r j (wblind r l)
    rw [total_cons, behind_keys fun s m => (h.all s m).1, ih]
    unfold ukeys
    rw [List.length_map]
theorem comes_eq {r : Rule} {s : Urn} (G : GoodR r) (hl : s.length = r.k) : comes r s = sizes r (total s - 1) [(s, 1)] := by
  unfold comes
  rcases Nat.eq_zero_or_pos (total s) with h | h
  · rw [h]; rfl
  · exact waves_sizes G (total s - 1) (l := [(s, 1)]) (wok_start hl) (by omega)
theorem waves_last {r : Rule} (G : GoodR r) : ∀ (j : Nat) {n : Nat} {l : Ways}, WOk r n l → j < n → (waves r j (ukeys l)).getLastD [] = ukeys (wblinds r j l)
  | 0, n, l, _, _ => rfl
  | j + 1, n, l, h, hj => by
    obtain ⟨n, rfl⟩ : ∃ m, n = m + 1 := ⟨n - 1, by omega⟩
    have ih := waves_last G j (h.next G (by omega)) (by omega)
    show (ukeys l :: waves r j (behind r (ukeys l))).getLastD [] = ukeys (wblinds r j (wblind r l))
    rw [← ih, behind_keys fun s m => (h.all s m).1]
    cases q : waves r j (ukeys (wblind r l)) with
    | nil => cases j <;> cases q
    | cons a b => rfl
/-- the colour of the one ball -/
def where1 (t : Urn) : Nat := t.findIdx (fun n => n == 1)
theorem total_one : ∀ {t : Urn}, total t = 1 → where1 t < t.length ∧ ∀ c, t.getD c 0 = if c = where1 t then 1 else 0
  | [], h => by cases h
  | a :: t, h => by
    rw [total_cons] at h
    by_cases e : a = 1
    · subst e
      have h0 : total t = 0 := by omega
      have hw : where1 (1 :: t) = 0 := by simp [where1, List.findIdx_cons]
      rw [hw]
      refine ⟨by simp, fun c => ?_⟩
      cases c with
      | zero => rfl
      | succ c =>
        have := getD_le_total t c
        rw [List.getD_cons_succ, if_neg (by omega)]
        omega
    · have ha : a = 0 := by omega
      subst ha
      obtain ⟨h1, h2⟩ := total_one (t := t) (by omega)
      have hw : where1 (0 :: t) = where1 t + 1 := by simp [where1, List.findIdx_cons]
      rw [hw]
      refine ⟨by simp; exact h1, fun c => ?_⟩
      cases c with
      | zero => rfl
      | succ c =>
        rw [List.getD_cons_succ, h2 c]
        by_cases q : c = where1 t
        · rw [if_pos q, if_pos (by omega)]
        · rw [if_neg q, if_neg (by omega)]
theorem urn_one_ext {s t : Urn} (hs : total s = 1) (ht : total t = 1) (hl : s.length = t.length) (h : where1 s = where1 t) : s = t := by
  apply List.ext_getElem hl
  intro i h1 h2
  have a := (total_one hs).2 i
  have b := (total_one ht).2 i
  rw [List.getD_eq_getElem?_getD, List.getElem?_eq_getElem h1] at a
  rw [List.getD_eq_getElem?_getD, List.getElem?_eq_getElem h2] at b
  have a' : s[i] = if i = where1 s then 1 else 0 := a
  have b' : t[i] = if i = where1 t then 1 else 0 := b
  rw [a', b', h]
theorem nodup_map_of {α β : Type} (f : α → β) : ∀ {l : List α}, l.Nodup → (∀ a ∈ l, ∀ b ∈ l, f a = f b → a = b) → (l.map f).Nodup
  | [], _, _ => by simp
  | a :: l, h, hf => by
    obtain ⟨h1, h2⟩ := List.nodup_cons.mp h
    rw [List.map_cons, List.nodup_cons]
    refine ⟨fun m => ?_, nodup_map_of f h2 fun x hx y hy => hf x (by simp [hx]) y (by simp [hy])⟩
    obtain ⟨b, hb, e⟩ := List.mem_map.mp m
    have := hf b (by simp [hb]) a (by simp) e
    subst this
    exact h1 hb
theorem lasts_perm {r : Rule} {s : Urn} (G : GoodR r) (hl : s.length = r.k) (h1 : 1 ≤ total s) : ((ukeys (wblinds r (total s - 1) [(s, 1)])).map where1).Perm (lasts r s) := by
  obtain ⟨_, ok⟩ := blinds_start G hl (j := total s - 1) (by omega)
  have e := waves_last G (total s - 1) (l := [(s, 1)]) (wok_start hl) (by omega)
  have e2 : ukeys [(s, 1)] = [s] := rfl
  rw [e2] at e
  have hn : total s - (total s - 1) = 1 := by omega
  rw [hn] at ok
  unfold lasts
  rw [e]
  rw [List.perm_ext_iff_of_nodup]
  · intro c
    rw [List.mem_map, List.mem_filter, List.mem_range, List.any_eq_true]
    constructor
    · rintro ⟨t, ht, rfl⟩
      obtain ⟨hk, ho⟩ := ok.all t ht
      obtain ⟨q1, q2⟩ := total_one ho
      refine ⟨by rw [← hk]; exact q1, t, ht, ?_⟩
      rw [q2, if_pos rfl]
      rfl
    · rintro ⟨hc, t, ht, q⟩
      obtain ⟨hk, ho⟩ := ok.all t ht
      obtain ⟨q1, q2⟩ := total_one ho
      refine ⟨t, ht, ?_⟩
      rw [q2] at q
      by_cases z : c = where1 t
      · exact z.symm
      · rw [if_neg z] at q; cases q
  · refine nodup_map_of where1 ok.nd fun a ha b hb q => ?_
    obtain ⟨k1, o1⟩ := ok.all a ha
    obtain ⟨k2, o2⟩ := ok.all b hb
    exact urn_one_ext o1 o2 (k1.trans k2.symm) q
  · exact (List.nodup_range).filter _
theorem lasts_sorted (r : Rule) (s : Urn) : (lasts r s).Pairwise (· < ·) := (List.pairwise_lt_range).filter _
end UM

namespace UM
open Uw82

/-! ### rules by rows -/
def rowOf (r : Rule) (a : Nat) : List Nat := (List.range r.k).map fun b => comesOf r a b
def rowsOf (r : Rule) : List (List Nat) := (List.range r.k).map (rowOf r)
theorem rows_len (r : Rule) : (rowsOf r).length = r.k := by simp [rowsOf]
theorem row_len (r : Rule) (a : Nat) : (rowOf r a).length = r.k := by simp [rowOf]
theorem rows_at {r : Rule} {a : Nat} (h : a < r.k) : (rowsOf r)[a]? = some (rowOf r a) := by
  unfold rowsOf
  rw [List.getElem?_map, List.getElem?_range h]
  rfl
theorem row_at {r : Rule} {a b : Nat} (h : b < r.k) : (rowOf r a)[b]? = some (comesOf r a b) := by
  unfold rowOf
  rw [List.getElem?_map, List.getElem?_range h]
  rfl
def setRule (r : Rule) (a b c : Nat) : Rule := { r with table := (r.table.set (spot r.k a b) c).set (max a b * r.k + min a b) c }
theorem set_k (r : Rule) (a b c : Nat) : (setRule r a b c).k = r.k := rfl
theorem spot_comm (k a b : Nat) : spot k a b = spot k b a := by unfold spot; rw [Nat.min_comm, Nat.max_comm]
theorem comes_comm (r : Rule) (a b : Nat) : comesOf r a b = comesOf r b a := by unfold comesOf; rw [spot_comm]
theorem pair_inj {k x y x' y' : Nat} (hy : y < k) (hy' : y' < k) (h : x * k + y = x' * k + y') : x = x' ∧ y = y' := by
  have hk : 0 < k := by omega
  have e1 : (x * k + y) / k = x := by rw [Nat.mul_comm, Nat.mul_add_div hk, Nat.div_eq_of_lt hy, Nat.add_zero]
  have e2 : (x' * k + y') / k = x' := by rw [Nat.mul_comm, Nat.mul_add_div hk, Nat.div_eq_of_lt hy', Nat.add_zero]
  have : x = x' := by rw [← e1, ← e2, h]
  subst this
  exact ⟨rfl, by omega⟩
theorem flip_lt {k a b : Nat} (ha : a < k) (hb : b < k) : max a b * k + min a b < k * k := by
  have h1 : max a b + 1 ≤ k := by omega
  have h2 : min a b < k := by omega
  have h3 : (max a b + 1) * k ≤ k * k := Nat.mul_le_mul_right k h1
  rw [Nat.add_mul, Nat.one_mul] at h3
  omega
theorem comes_set {r : Rule} (G : GoodR r) {a b c i j : Nat} (ha : a < r.k) (hb : b < r.k) (hi : i < r.k) (hj : j < r.k) :
    comesOf (setRule r a b c) i j = if (i = a ∧ j = b) ∨ (i = b ∧ j = a) then c else comesOf r i j := by
  unfold comesOf setRule
  dsimp only
  have l1 := spot_lt ha hb
  have l2 := spot_lt hi hj
  have l3 := flip_lt ha hb
  rw [List.getD_eq_getElem?_getD, List.getElem?_set, List.getElem?_set, List.getD_eq_getElem?_getD, List.length_set, G.len]
  by_cases e1 : max a b * r.k + min a b = spot r.k i j
  · rw [if_pos e1, if_pos l3]
    unfold spot at e1
    obtain ⟨q1, q2⟩ := pair_inj (by omega) (by omega) e1
    rw [if_pos (by omega)]
    rfl
  · rw [if_neg e1]
    by_cases e2 : spot r.k a b = spot r.k i j
    · rw [if_pos e2, if_pos l1]
      unfold spot at e2
      obtain ⟨q1, q2⟩ := pair_inj (by omega) (by omega) e2
      rw [if_pos (by omega)]
      rfl
    · rw [if_neg e2]
      have q : ¬ ((i = a ∧ j = b) ∨ (i = b ∧ j = a)) := by
        rintro (⟨rfl, rfl⟩ | ⟨rfl, rfl⟩)
        · exact e2 rfl
        · exact e2 (spot_comm _ _ _)
      rw [if_neg q]
theorem good_set {r : Rule} (G : GoodR r) {a b c : Nat} (hc : c < r.k) : GoodR (setRule r a b c) := by
  refine ⟨G.k2, G.k4, ?_, ?_⟩
  · show ((r.table.set _ c).set _ c).length = r.k * r.k
    rw [List.length_set, List.length_set, G.len]
  · intro x hx
    rcases List.mem_or_eq_of_mem_set hx with hx | rfl
    · rcases List.mem_or_eq_of_mem_set hx with hx | rfl
      · exact G.small x hx
      · exact hc
    · exact hc
/-- a number at a place of a table of rows -/
def setAt (M : List (List Nat)) (a b c : Nat) : List (List Nat) := M.set a ((M.getD a []).set b c)
theorem rows_set {r : Rule} (G : GoodR r) {a b c : Nat} (ha : a < r.k) (hb : b < r.k) : setAt (setAt (rowsOf r) a b c) b a c = rowsOf (setRule r a b c) := by
  have la : a < (rowsOf r).length := by rw [rows_len]; exact ha
  have ga : (rowsOf r).getD a [] = rowOf r a := by rw [List.getD_eq_getElem?_getD, rows_at ha]; rfl
  have gb : (rowsOf r).getD b [] = rowOf r b := by rw [List.getD_eq_getElem?_getD, rows_at hb]; rfl
  have row : ∀ i, i < r.k → rowOf (setRule r a b c) i = (List.range r.k).map fun j => if (i = a ∧ j = b) ∨ (i = b ∧ j = a) then c else comesOf r i j := by
    intro i hi
    unfold rowOf
    apply List.map_congr_left
    intro j hj
    exact comes_set G ha hb hi (List.mem_range.mp hj)
  apply List.ext_getElem?
  intro i
  unfold setAt
  rw [ga, List.getElem?_set, List.length_set, rows_len]
  by_cases hbi : b = i
  · subst hbi
    rw [if_pos rfl, if_pos hb, rows_at (r := setRule r a b c) hb, row b hb]
    congr 1
    rw [List.getD_eq_getElem?_getD, List.getElem?_set, rows_len]
    apply List.ext_getElem?
    intro j
    rw [List.getElem?_set, List.getElem?_map]
    by_cases hab : a = b
    · subst hab
      rw [if_pos rfl, if_pos ha]
      show (if a = j then if a < ((rowOf r a).set a c).length then some c else none else ((rowOf r a).set a c)[j]?) = _
      rw [List.length_set, row_len, if_pos ha, List.getElem?_set, row_len, if_pos ha]
      by_cases hj : j < r.k
      · rw [List.getElem?_range hj, row_at hj]
        by_cases q : a = j
        · subst q; simp
        · have q' : ¬ j = a := fun z => q z.symm
          simp [q, q']
      · have q : ¬ a = j := by omega
        rw [if_neg q, if_neg q, List.getElem?_eq_none (by rw [row_len]; omega), List.getElem?_eq_none (by simp; omega)]
        rfl
    · rw [if_neg hab, rows_at hb]
      show (if a = j then if a < (rowOf r b).length then some c else none else (rowOf r b)[j]?) = _
      rw [row_len, if_pos ha]
      by_cases hj : j < r.k
      · rw [List.getElem?_range hj, row_at hj]
        have hba : ¬ b = a := fun z => hab z.symm
        by_cases q : a = j
        · subst q; simp [hab, hba]
        · have q' : ¬ j = a := fun z => q z.symm
          simp [q, q', hba]
      · have q : ¬ a = j := by omega
        rw [if_neg q, List.getElem?_eq_none (by rw [row_len]; omega), List.getElem?_eq_none (by simp; omega)]
        rfl
  · rw [if_neg hbi, List.getElem?_set, rows_len]
    by_cases hai : a = i
    · subst hai
      rw [if_pos rfl, if_pos ha, rows_at (r := setRule r a b c) ha, row a ha]
      congr 1
      apply List.ext_getElem?
      intro j
      rw [List.getElem?_set, List.getElem?_map, row_len, if_pos hb]
      have hab : ¬ a = b := fun z => hbi z.symm
      by_cases hj : j < r.k
      · rw [List.getElem?_range hj, row_at hj]
        by_cases q : b = j
        · subst q; simp
        · have q' : ¬ j = b := fun z => q z.symm
          simp [q, q', hab]
      · have q : ¬ b = j := by omega
        rw [if_neg q, List.getElem?_eq_none (by rw [row_len]; omega), List.getElem?_eq_none (by simp; omega)]
        rfl
    · rw [if_neg hai]
      by_cases hi : i < r.k
      · rw [rows_at hi, rows_at (r := setRule r a b c) hi, row i hi]
        congr 1
        unfold rowOf
        apply List.map_congr_left
        intro j hj
        rw [if_neg (by omega)]
      · rw [List.getElem?_eq_none (by rw [rows_len]; omega), List.getElem?_eq_none (by rw [rows_len]; show r.k ≤ i; omega)]
theorem setAt_len (M : List (List Nat)) (a b c : Nat) : (setAt M a b c).length = M.length := by unfold setAt; rw [List.length_set]
theorem good_low {k : Nat} (h2 : 2 ≤ k) (h4 : k ≤ 4) : GoodR (lowest k) := by
  have : k = 2 ∨ k = 3 ∨ k = 4 := by omega
  rcases this with rfl | rfl | rfl <;> exact ⟨by decide, by decide, by decide, by decide⟩
theorem rows_low {k : Nat} (h2 : 2 ≤ k) (h4 : k ≤ 4) : rowsOf (lowest k) = (List.range k).map fun a => (List.range k).map fun b => min a b := by
  have : k = 2 ∨ k = 3 ∨ k = 4 := by omega
  rcases this with rfl | rfl | rfl <;> decide

/-! ### colours that matter -/
theorem find_range {α : Type} (p : α → Bool) (f : Nat → List α) {k i : Nat} {x : α} (hi : i < k) (h0 : ∀ j, j < i → (f j).find? p = none) (h1 : (f i).find? p = some x) : ((List.range k).flatMap f).find? p = some x := by
  obtain ⟨d, rfl⟩ : ∃ d, k = i + (d + 1) := ⟨k - i - 1, by omega⟩
  rw [List.range_add, List.flatMap_append, List.find?_append]
  have e0 : ((List.range i).flatMap f).find? p = none := by
    rw [List.find?_eq_none]
    intro y hy
    obtain ⟨j, hj, hy⟩ := List.mem_flatMap.mp hy
    exact List.find?_eq_none.mp (h0 j (List.mem_range.mp hj)) y hy
  rw [e0, Option.none_or, List.range_succ_eq_map, List.map_cons, List.flatMap_cons, List.find?_append, Nat.add_zero, h1]
  rfl
theorem find_range_none {α : Type} (p : α → Bool) (f : Nat → List α) {k : Nat} (h0 : ∀ j, j < k → (f j).find? p = none) : ((List.range k).flatMap f).find? p = none := by
  rw [List.find?_eq_none]
  intro y hy
  obtain ⟨j, hj, hy⟩ := List.mem_flatMap.mp hy
  exact List.find?_eq_none.mp (h0 j (List.mem_range.mp hj)) y hy
/-- none matter ahead of a; of a, b; of a, b, c -/
structure NoneTill (r : Rule) (a b c : Nat) : Prop where
  h1 : ∀ x y z, x < a → y < r.k → z < r.k → matters r x y z = false
  h2 : ∀ y z, y < b → z < r.k → matters r a y z = false
  h3 : ∀ z, z < c → matters r a b z = false
theorem map_one {α β : Type} (f : α → β) (l : List α) : l.map f = l.flatMap fun x => [f x] := by
  induction l with
  | nil => rfl
  | cons a l ih => rw [List.map_cons, List.flatMap_cons, ih]; rfl
theorem first_some {r : Rule} {a b c : Nat} (h : NoneTill r a b c) (ha : a < r.k) (hb : b < r.k) (hc : c < r.k) (m : matters r a b c = true) : firstMatter r = some (a, b, c) := by
  unfold firstMatter triples
  refine find_range _ _ ha (fun x hx => find_range_none _ _ fun y hy => ?_) (find_range _ _ hb (fun y hy => ?_) ?_)
  · rw [map_one]
    refine find_range_none _ _ fun z hz => ?_
    simp [h.h1 x y z hx hy hz]
  · rw [map_one]
    refine find_range_none _ _ fun z hz => ?_
    simp [h.h2 y z hy hz]
  · rw [map_one]
    refine find_range _ _ hc (fun z hz => ?_) ?_
    · simp [h.h3 z hz]
    · simp [m]
theorem first_none {r : Rule} (h : NoneTill r r.k 0 0) : firstMatter r = none := by
  unfold firstMatter triples
  refine find_range_none _ _ fun x hx => find_range_none _ _ fun y hy => ?_
  rw [map_one]
  refine find_range_none _ _ fun z hz => ?_
  simp [h.h1 x y z hx hy hz]
theorem NoneTill.c {r : Rule} {a b c : Nat} (h : NoneTill r a b c) (m : matters r a b c = false) : NoneTill r a b (c + 1) :=
  ⟨h.h1, h.h2, fun z hz => by
    rcases Nat.lt_or_ge z c with q | q
    · exact h.h3 z q
    · have : z = c := by omega
      subst this; exact m⟩
theorem NoneTill.b {r : Rule} {a b : Nat} (h : NoneTill r a b r.k) : NoneTill r a (b + 1) 0 :=
  ⟨h.h1, fun y z hy hz => by
    rcases Nat.lt_or_ge y b with q | q
    · exact h.h2 y z q hz
    · have : y = b := by omega
      subst this; exact h.h3 z hz, fun z hz => absurd hz (Nat.not_lt_zero _)⟩
theorem NoneTill.a {r : Rule} {a : Nat} (h : NoneTill r a r.k 0) : NoneTill r (a + 1) 0 0 :=
  ⟨fun x y z hx hy hz => by
    rcases Nat.lt_or_ge x a with q | q
    · exact h.h1 x y z q hy hz
    · have : x = a := by omega
      subst this; exact h.h2 y z hy hz, fun y z hy _ => absurd hy (Nat.not_lt_zero _), fun z hz => absurd hz (Nat.not_lt_zero _)⟩
theorem NoneTill.start (r : Rule) : NoneTill r 0 0 0 :=
  ⟨fun x y z hx _ _ => absurd hx (Nat.not_lt_zero _), fun y z hy _ => absurd hy (Nat.not_lt_zero _), fun z hz => absurd hz (Nat.not_lt_zero _)⟩
theorem matters_eq (r : Rule) (a b c : Nat) : matters r a b c = !decide (comesOf r c (comesOf r a b) = comesOf r a (comesOf r b c)) := by
  unfold matters
  rw [comes_comm r (comesOf r a b) c]
  by_cases e : comesOf r c (comesOf r a b) = comesOf r a (comesOf r b c)
  · rw [e, decide_eq_true rfl]; simp
  · rw [decide_eq_false e]; simp [e]

/-! ### all twos, by two loops -/
def tpre (k i j : Nat) : List (Nat × Nat) := ((List.range i).flatMap fun a => (List.range (k - a)).map fun d => (a, a + d)) ++ (List.range j).map fun d => (i, i + d)
theorem pre_zero (k : Nat) : tpre k 0 0 = [] := rfl
theorem pre_snoc (k i j : Nat) : tpre k i (j + 1) = tpre k i j ++ [(i, i + j)] := by
  unfold tpre
  rw [List.range_succ, List.map_append, ← List.append_assoc]
  rfl
theorem pre_next (k i : Nat) : tpre k i (k - i) = tpre k (i + 1) 0 := by
  unfold tpre
  rw [List.range_succ, List.flatMap_append]
  simp
theorem pre_all {k : Nat} (h2 : 2 ≤ k) (h4 : k ≤ 4) : tpre k k 0 = twos k := by
  have : k = 2 ∨ k = 3 ∨ k = 4 := by omega
  rcases this with rfl | rfl | rfl <;> decide
theorem twos_len {k : Nat} (h4 : k ≤ 4) : (twos k).length ≤ 10 := by
  have : k = 0 ∨ k = 1 ∨ k = 2 ∨ k = 3 ∨ k = 4 := by omega
  rcases this with rfl | rfl | rfl | rfl | rfl <;> decide
theorem pre_len {k i j : Nat} (h4 : k ≤ 4) (hi : i < k) (hj : j ≤ k - i) : (tpre k i j).length ≤ 10 := by
  have h : ∀ k, k ≤ 4 → ∀ i, i ≤ k → ∀ j, j ≤ k - i → (tpre k i j).length ≤ 10 := by decide
  exact h k h4 i (by omega) j hj

/-! ### all rules, by their numbers -/
def numStep (k : Nat) (st : Rule × Nat) (y : Nat × Nat) : Rule × Nat := (setRule st.1 y.1 y.2 (st.2 % k), st.2 / k)
def numRule (k n : Nat) : Rule := ((twos k).foldl (numStep k) (lowest k, n)).1
theorem num_good {k : Nat} (h2 : 2 ≤ k) (h4 : k ≤ 4) (n : Nat) : ∀ l : List (Nat × Nat), GoodR (l.foldl (numStep k) (lowest k, n)).1 ∧ (l.foldl (numStep k) (lowest k, n)).1.k = k := by
  have gen : ∀ (l : List (Nat × Nat)) (st : Rule × Nat), GoodR st.1 → st.1.k = k → GoodR (l.foldl (numStep k) st).1 ∧ (l.foldl (numStep k) st).1.k = k := by
    intro l
    induction l with
    | nil => exact fun st g e => ⟨g, e⟩
    | cons y l ih =>
      intro st g e
      rw [List.foldl_cons]
      exact ih _ (good_set g (by rw [e]; exact Nat.mod_lt _ (by omega))) e
  exact fun l => gen l _ (good_low h2 h4) rfl
def manyRules (k : Nat) : Nat := (twos k).foldl (fun m _ => m * k) 1
def sureRules (k : Nat) : Nat := ((List.range (manyRules k)).filter fun n => (firstMatter (numRule k n)).isNone).length
theorem rules2 : (rules 2).length = manyRules 2 ∧ ((rules 2).filter fun r => (firstMatter r).isNone).length = sureRules 2 := by decide +kernel
theorem rules3a : (rules 3).length = manyRules 3 := by decide +kernel
theorem rules3b : ((rules 3).filter fun r => (firstMatter r).isNone).length = 63 := by decide +kernel
theorem rules3c : sureRules 3 = 63 := by decide +kernel
theorem many_small {k : Nat} (h2 : 2 ≤ k) (h3 : k ≤ 3) : manyRules k ≤ 729 := by
  have : k = 2 ∨ k = 3 := by omega
  rcases this with rfl | rfl <;> decide
theorem rules_eq {k : Nat} (h2 : 2 ≤ k) (h3 : k ≤ 3) : (rules k).length = manyRules k ∧ ((rules k).filter fun r => (firstMatter r).isNone).length = sureRules k := by
  have : k = 2 ∨ k = 3 := by omega
  rcases this with rfl | rfl
  · exact rules2
  · exact ⟨rules3a, rules3b.trans rules3c.symm⟩
/-- how many of the first n -/
def sureTill (k n : Nat) : Nat := ((List.range n).filter fun n => (firstMatter (numRule k n)).isNone).length
theorem sureTill_succ (k n : Nat) : sureTill k (n + 1) = sureTill k n + if (firstMatter (numRule k n)).isNone = true then 1 else 0 := by
  unfold sureTill
  rw [List.range_succ, List.filter_append, List.length_append]
  congr 1
  rw [List.filter_cons]
  split <;> rfl
end UM

namespace UM
open Uw82

/-! ### states -/
structure GoodS (s : St) : Prop where
  r : GoodR s.rule
  len : s.urn.length = s.rule.k
  few : total s.urn ≤ 8
theorem good_init : GoodS init := ⟨good_low (by decide) (by decide), rfl, by decide⟩
theorem total_zeros (k : Nat) : total (List.replicate k 0) = 0 := by rw [total_eq]; simp
theorem good_step {s : St} (G : GoodS s) (c : Call) : GoodS (step s c).1 := by
  cases c with
  | begins k =>
    show GoodS (if k < 2 ∨ 4 < k then (s, [-1]) else (⟨lowest k, List.replicate k 0⟩, [0])).1
    split
    · exact G
    · rename_i h
      exact ⟨good_low (by omega) (by omega), by simp [lowest], by rw [total_zeros]; omega⟩
  | rule a b c =>
    simp only [step]
    split
    · exact G
    · rename_i h
      exact ⟨good_set G.r (by omega), G.len, G.few⟩
  | urn l =>
    simp only [step]
    split
    · exact G
    · rename_i h
      exact ⟨G.r, by show l.length = s.rule.k; omega, by show total l ≤ 8; omega⟩
  | draw a b =>
    simp only [step]
    split
    · exact G
    · rename_i h
      split
      · exact G
      · rename_i h2
        have ha : a < s.rule.k := by omega
        have hb : b < s.rule.k := by omega
        have ht : areThere s.urn a b = true := by simpa using h2
        refine ⟨G.r, by show (drawn s.rule s.urn a b).length = s.rule.k; rw [drawn_len, G.len], ?_⟩
        have := total_drawn (r := s.rule) (by rw [G.len]; exact ha) (by rw [G.len]; exact hb) (by rw [G.len]; exact G.r.lt ha hb) ht
        have h3 := G.few
        show total (drawn s.rule s.urn a b) ≤ 8
        omega
  | lasts => exact G
  | sure => exact G
  | comes => exact G
  | chances => exact G
  | average m c => exact G
  | matter => exact G
  | rules k => exact G
theorem lasts_len (r : Rule) (s : Urn) : (lasts r s).length ≤ r.k := by
  unfold lasts
  have := List.length_filter_le (fun c => ((waves r (total s - 1) [s]).getLastD []).any fun t => t.getD c 0 == 1) (List.range r.k)
  rw [List.length_range] at this
  exact this
theorem flat_two (f : Nat → Frac) : ∀ l : List Nat, (l.flatMap fun c => told (f c)).length = 2 * l.length
  | [] => rfl
  | a :: l => by
    rw [List.flatMap_cons, List.length_append, flat_two f l, List.length_cons]
    show 2 + _ = _
    omega
theorem step_len {s : St} (G : GoodS s) (c : Call) : (step s c).2.length ≤ 9 := by
  have k4 := G.r.k4
  cases c with
  | begins k => simp only [step]; split <;> simp
  | rule a b c => simp only [step]; split <;> simp
  | urn l => simp only [step]; split <;> simp
  | draw a b =>
    simp only [step]
    split
    · simp
    · split
      · simp
      · have := drawn_len s.rule s.urn a b
        have := G.len
        simp [Uw82.ints]; omega
  | lasts =>
    have := lasts_len s.rule s.urn
    simp only [step, onUrn]; split <;> simp [counted, Uw82.ints]; omega
  | sure => simp only [step, onUrn]; split <;> (try split) <;> simp [Uw82.ints]
  | comes => simp [step]
  | chances =>
    simp only [step, onUrn]
    split
    · simp
    · rw [List.length_cons, flat_two, List.length_range]; omega
  | average m c => simp only [step]; split <;> (try split) <;> simp [told, Uw82.ints]
  | matter => simp only [step]; split <;> simp [Uw82.ints]
  | rules k => simp only [step]; split <;> simp [Uw82.ints]

/-! ### the calls read out of the list -/
def nums (c : Nat) : Nat := if c = 0 then 1 else if c = 1 then 3 else if c = 3 then 2 else if c = 8 then 2 else if c = 10 then 1 else 0
theorem ints_len (l : List Nat) : (Uw82.ints l).length = l.length := by simp [Uw82.ints]
theorem ints_take (l : List Nat) (n : Nat) : (Uw82.ints l).take n = Uw82.ints (l.take n) := by simp [Uw82.ints, List.map_take]
theorem ints_drop (l : List Nat) (n : Nat) : (Uw82.ints l).drop n = Uw82.ints (l.drop n) := by simp [Uw82.ints, List.map_drop]
theorem ints_cons (a : Nat) (l : List Nat) : Uw82.ints (a :: l) = (a : Int) :: Uw82.ints l := rfl
theorem call_cons (shape : Int → Option (Nat × Nat)) (p : Int) (r : List Int) : PyFlat.call shape (p :: r) = (match shape p with
    | none => none
    | some (n, k) => if r.length < n then none else match PyFlat.rows k (r.drop n) with
      | none => none
      | some (xs, t) => some ((p :: r.take n) :: xs, t)) := rfl
theorem call_plain {c n : Nat} {r : List Nat} {x : List (List Int) × List Int} (hs : PyUw82.shape (c : Int) = some (n, 0)) (h : PyFlat.call PyUw82.shape (Uw82.ints (c :: r)) = some x) :
    n ≤ r.length ∧ x = ([(c : Int) :: Uw82.ints (r.take n)], Uw82.ints (r.drop n)) := by
  rw [ints_cons, call_cons, hs] at h
  simp only [PyFlat.rows] at h
  rw [ints_len, ints_take, ints_drop] at h
  split at h
  · cases h
  · rename_i q
    exact ⟨by omega, (Option.some.inj h).symm⟩
theorem call_row {r : List Nat} {x : List (List Int) × List Int} (h : PyFlat.call PyUw82.shape (Uw82.ints (2 :: r)) = some x) :
    ∃ m t, r = m :: t ∧ m ≤ t.length ∧ x = ([[2], Uw82.ints (t.take m)], Uw82.ints (t.drop m)) := by
  rw [ints_cons, call_cons, show PyUw82.shape ((2 : Nat) : Int) = some (0, 1) from rfl] at h
  simp only [PyFlat.rows] at h
  cases r with
  | nil => simp [Uw82.ints, PyFlat.row] at h
  | cons m t =>
    refine ⟨m, t, rfl, ?_⟩
    rw [List.drop_zero, List.take_zero, ints_cons] at h
    simp only [PyFlat.row, Int.toNat_natCast, ints_len, ints_take, ints_drop] at h
    rw [if_neg (Nat.not_lt_zero _)] at h
    by_cases q : m ≤ t.length
    · rw [if_pos ⟨Int.natCast_nonneg m, q⟩] at h
      exact ⟨q, (Option.some.inj h).symm⟩
    · rw [if_neg (fun z => q z.2)] at h
      cases h
/-- one call at the list's head -/
structure Head (l : List Nat) (c : Nat) (args rest : List Nat) (call : List (List Int)) : Prop where
  told : (PyUw82.whole call).headD [] = Uw82.ints (c :: args)
  is : (c = 2 ∧ l = 2 :: args.length :: (args ++ rest)) ∨ (c ≠ 2 ∧ c ≤ 10 ∧ args.length = nums c ∧ l = c :: (args ++ rest))
theorem head_plain {c n : Nat} {r : List Nat} {x : List (List Int) × List Int} (hs : PyUw82.shape (c : Int) = some (n, 0)) (hn : n = nums c) (hc : c ≠ 2) (hc' : c ≤ 10)
    (hw : ∀ a : List Nat, a.length = n → (PyUw82.whole [(c : Int) :: Uw82.ints a]).headD [] = Uw82.ints (c :: a)) (h : PyFlat.call PyUw82.shape (Uw82.ints (c :: r)) = some x) :
    ∃ args rest, Head (c :: r) c args rest x.1 ∧ x.2 = Uw82.ints rest := by
  obtain ⟨h1, rfl⟩ := call_plain hs h
  have hl : (r.take n).length = n := by rw [List.length_take]; omega
  exact ⟨r.take n, r.drop n, ⟨hw _ hl, .inr ⟨hc, hc', hl.trans hn, by rw [List.take_append_drop]⟩⟩, rfl⟩
theorem head_of {c : Nat} {r : List Nat} {x : List (List Int) × List Int} (h : PyFlat.call PyUw82.shape (Uw82.ints (c :: r)) = some x) : ∃ args rest, Head (c :: r) c args rest x.1 ∧ x.2 = Uw82.ints rest := by
  match c, h with
  | 0, h => exact head_plain (n := 1) rfl rfl (by decide) (by decide) (fun a ha => match a, ha with | [_], _ => rfl) h
  | 1, h => exact head_plain (n := 3) rfl rfl (by decide) (by decide) (fun a ha => match a, ha with | [_, _, _], _ => rfl) h
  | 2, h =>
    obtain ⟨m, t, rfl, hm, rfl⟩ := call_row h
    have hl : (t.take m).length = m := by rw [List.length_take]; omega
    refine ⟨t.take m, t.drop m, ⟨rfl, .inl ⟨rfl, ?_⟩⟩, rfl⟩
    rw [hl, List.take_append_drop]
  | 3, h => exact head_plain (n := 2) rfl rfl (by decide) (by decide) (fun a ha => match a, ha with | [_, _], _ => rfl) h
  | 4, h => exact head_plain (n := 0) rfl rfl (by decide) (by decide) (fun a ha => match a, ha with | [], _ => rfl) h
  | 5, h => exact head_plain (n := 0) rfl rfl (by decide) (by decide) (fun a ha => match a, ha with | [], _ => rfl) h
  | 6, h => exact head_plain (n := 0) rfl rfl (by decide) (by decide) (fun a ha => match a, ha with | [], _ => rfl) h
  | 7, h => exact head_plain (n := 0) rfl rfl (by decide) (by decide) (fun a ha => match a, ha with | [], _ => rfl) h
  | 8, h => exact head_plain (n := 2) rfl rfl (by decide) (by decide) (fun a ha => match a, ha with | [_, _], _ => rfl) h
  | 9, h => exact head_plain (n := 0) rfl rfl (by decide) (by decide) (fun a ha => match a, ha with | [], _ => rfl) h
  | 10, h => exact head_plain (n := 1) rfl rfl (by decide) (by decide) (fun a ha => match a, ha with | [_], _ => rfl) h
  | c + 11, h =>
    exfalso
    rw [ints_cons, call_cons] at h
    have e : PyUw82.shape ((c + 11 : Nat) : Int) = none := by
      unfold PyUw82.shape
      rw [if_neg (by omega), if_neg (by omega), if_neg (by omega), if_neg (by omega), if_neg (by omega), if_neg (by omega), if_neg (by omega), if_neg (by omega), if_neg (by omega), if_neg (by omega), if_neg (by omega)]
    rw [e] at h
    cases h
theorem calls_head {f : Nat} {c : Nat} {r : List Nat} {raw : List (List (List Int))} (h : PyFlat.calls PyUw82.shape f (Uw82.ints (c :: r)) = some raw) :
    ∃ f' args rest call raw', Head (c :: r) c args rest call ∧ raw = call :: raw' ∧ PyFlat.calls PyUw82.shape f' (Uw82.ints rest) = some raw' := by
  cases f with
  | zero => simp [Uw82.ints, PyFlat.calls] at h
  | succ f =>
    rw [ints_cons] at h
    unfold PyFlat.calls at h
    cases q : PyFlat.call PyUw82.shape ((c : Int) :: Uw82.ints r) with
    | none => rw [q] at h; cases h
    | some x =>
      rw [q] at h
      obtain ⟨args, rest, H, e⟩ := head_of (c := c) (r := r) q
      obtain ⟨x1, x2⟩ := x
      have e : x2 = Uw82.ints rest := e
      subst e
      have h : (match PyFlat.calls PyUw82.shape f (Uw82.ints rest) with | none => none | some cs => some (x1 :: cs)) = some raw := h
      cases q2 : PyFlat.calls PyUw82.shape f (Uw82.ints rest) with
      | none => rw [q2] at h; cases h
      | some cs =>
        rw [q2] at h
        exact ⟨f, args, rest, x1, cs, H, (Option.some.inj h).symm, q2⟩
theorem calls_nil {f : Nat} {raw : List (List (List Int))} (h : PyFlat.calls PyUw82.shape f (Uw82.ints []) = some raw) : raw = [] := by
  have h : PyFlat.calls PyUw82.shape f [] = some raw := h
  unfold PyFlat.calls at h
  cases f <;> exact (Option.some.inj h).symm
abbrev ugo (s : St) (c : List (List Int)) : St × List Int := Uw82Neutral.step s (c.headD [])
/-- what is still to come at a place -/
structure Left (l : List Nat) (p : Nat) (s : St) (g : List Int) : Prop where
  le : p ≤ l.length
  good : GoodS s
  ex : ∃ f raw, PyFlat.calls PyUw82.shape f (Uw82.ints (l.drop p)) = some raw ∧ PyUw82.answers (Uw82.ints l) = g ++ PyFlat.told (PyFlat.played ugo s (raw.map PyUw82.whole)) ∧ g.length + 10 * raw.length ≤ 400 ∧
    ∀ c ∈ raw, (Uw82Neutral.callOf ((PyUw82.whole c).headD [])).isSome = true
theorem left_start {l : List Nat} (h : PyUw82.answers_asked (Uw82.ints l) = true) : Left l 0 init [] := by
  unfold PyUw82.answers_asked at h
  cases q : PyFlat.calls PyUw82.shape (Uw82.ints l).length (Uw82.ints l) with
  | none => rw [q] at h; cases h
  | some raw =>
    rw [q] at h
    simp only [Bool.and_eq_true] at h
    obtain ⟨⟨⟨⟨_, h40⟩, _⟩, hask⟩, _⟩ := h
    refine ⟨Nat.zero_le _, good_init, (Uw82.ints l).length, raw, q, ?_, ?_, ?_⟩
    · unfold PyUw82.answers PyUw82.calls
      rw [q]
      rfl
    · have : raw.length ≤ 40 := of_decide_eq_true h40
      simp
      omega
    · intro c hc
      unfold Uw82Neutral.asked at hask
      rw [Bool.and_eq_true] at hask
      have := List.all_eq_true.mp hask.1 ((PyUw82.whole c).headD []) (by
        rw [List.map_map]
        exact List.mem_map.mpr ⟨c, hc, rfl⟩)
      exact this
theorem left_end {l : List Nat} {s : St} {p : Nat} {g : List Int} (h : Left l p s g) (hp : l.length ≤ p) : g = PyUw82.answers (Uw82.ints l) := by
  obtain ⟨f, raw, h1, h2, _, _⟩ := h.ex
  rw [List.drop_eq_nil_of_le hp] at h1
  rw [calls_nil h1] at h2
  rw [h2]
  show g = g ++ []
  rw [List.append_nil]
theorem callOf_ints {l : List Nat} (h : (Uw82Neutral.callOf (Uw82.ints l)).isSome = true) : ∃ x, Uw82Neutral.callIn l = some x ∧ Uw82Neutral.callOf (Uw82.ints l) = some x := by
  unfold Uw82Neutral.callOf at h ⊢
  split at h
  · cases h
  · rename_i q
    rw [if_neg q]
    have e : (Uw82.ints l).map Int.toNat = l := by
      unfold Uw82.ints
      rw [List.map_map]
      conv => rhs; rw [← List.map_id l]
      apply List.map_congr_left
      intro a _
      exact Int.toNat_natCast a
    rw [e] at h ⊢
    obtain ⟨x, hx⟩ := Option.isSome_iff_exists.mp h
    exact ⟨x, hx, hx⟩
/-- one turn -/
structure Turn1 (l : List Nat) (p : Nat) (s : St) (g : List Int) (c : Nat) (args : List Nat) (b q : Nat) (x : Call) : Prop where
  at_ : l[p]? = some c
  is_ : (c = 2 ∧ b = p + 2 ∧ l[p + 1]? = some args.length) ∨ (c ≠ 2 ∧ c ≤ 10 ∧ b = p + 1 ∧ args.length = nums c)
  eq_ : q = b + args.length
  le : q ≤ l.length
  cut : (l.drop b).take args.length = args
  cl : Uw82Neutral.callIn (c :: args) = some x
  left : Left l q (step s x).1 (g ++ ((step s x).2.length : Int) :: (step s x).2)
  room : g.length + 10 ≤ 400
theorem drop_cons {l : List Nat} {p c : Nat} {t : List Nat} (h : l.drop p = c :: t) : l[p]? = some c ∧ l.drop (p + 1) = t := by
  constructor
  · have := List.getElem?_drop (xs := l) (i := p) (j := 0)
    rw [h] at this
    exact this.symm
  · rw [← List.drop_drop, h]
    rfl
theorem nstep_eq {s : St} {c : List Int} {x : Call} (h : Uw82Neutral.callOf c = some x) : Uw82Neutral.step s c = step s x := by
  have e : Uw82Neutral.step s c = (match Uw82Neutral.callOf c with
    | none => (s, [])
    | some x => ((Uw82.step s x).1, Uw82Neutral.out (Uw82.step s x).2)) := rfl
  rw [e, h]
  dsimp only
  unfold Uw82Neutral.out
  generalize Uw82.step s x = y
  cases y
  rfl
theorem go_eq {s : St} {call : List (List Int)} {c : Nat} {args : List Nat} {x : Call} (ht : (PyUw82.whole call).headD [] = Uw82.ints (c :: args)) (hx2 : Uw82Neutral.callOf (Uw82.ints (c :: args)) = some x) : ugo s (PyUw82.whole call) = step s x := by
  unfold ugo
  rw [ht]
  exact nstep_eq hx2
theorem left_turn {l : List Nat} {p : Nat} {s : St} {g : List Int} (h : Left l p s g) (hp : p < l.length) : ∃ c args b q x, Turn1 l p s g c args b q x := by
  obtain ⟨f, raw, h1, h2, h3, h4⟩ := h.ex
  obtain ⟨c, r, hr⟩ : ∃ c r, l.drop p = c :: r := by
    cases q : l.drop p with
    | nil => have := congrArg List.length q; rw [List.length_drop] at this; simp at this; omega
    | cons c r => exact ⟨c, r, rfl⟩
  rw [hr] at h1
  obtain ⟨f', args, rest, call, raw', Hd, e, h5⟩ := calls_head h1
  subst e
  have h4c := h4 call (by simp)
  rw [Hd.told] at h4c
  obtain ⟨x, hx, hx2⟩ := callOf_ints h4c
  obtain ⟨d1, d2⟩ := drop_cons hr
  have hlen := congrArg List.length hr
  rw [List.length_drop, List.length_cons] at hlen
  have hgo : ugo s (PyUw82.whole call) = step s x := go_eq Hd.told hx2
  have hans : PyUw82.answers (Uw82.ints l) = (g ++ ((step s x).2.length : Int) :: (step s x).2) ++ PyFlat.told (PyFlat.played ugo (step s x).1 (raw'.map PyUw82.whole)) := by
    have e1 : PyFlat.played ugo s (PyUw82.whole call :: raw'.map PyUw82.whole) = (ugo s (PyUw82.whole call)).2 :: PyFlat.played ugo (ugo s (PyUw82.whole call)).1 (raw'.map PyUw82.whole) := rfl
    rw [h2, List.map_cons, e1, hgo]
    unfold PyFlat.told
    rw [List.flatMap_cons, List.append_assoc]
  have hsl := step_len h.good x
  have fin : ∀ b, (l.drop b = args ++ rest) → b ≤ l.length → b + args.length ≤ l.length ∧ (l.drop b).take args.length = args ∧ Left l (b + args.length) (step s x).1 (g ++ ((step s x).2.length : Int) :: (step s x).2) := by
    intro b hb hbl
    have hlb := congrArg List.length hb
    rw [List.length_drop, List.length_append] at hlb
    refine ⟨by omega, by rw [hb, List.take_left'] ; rfl, by omega, good_step h.good x, f', raw', ?_, hans, ?_, fun c hc => h4 c (by simp [hc])⟩
    · rw [← List.drop_drop, hb, List.drop_left']
      · exact h5
      · rfl
    · rw [List.length_append, List.length_cons]
      rw [List.length_cons] at h3
      omega
  have hroom : g.length + 10 ≤ 400 := by rw [List.length_cons] at h3; omega
  rcases Hd.is with ⟨rfl, hl⟩ | ⟨hc, hc', hn, hl⟩
  · have hr2 : r = args.length :: (args ++ rest) := by injection hl
    rw [hr2] at d2
    obtain ⟨d3, d4⟩ := drop_cons d2
    have hrl := congrArg List.length hr2
    rw [List.length_cons] at hrl
    obtain ⟨f1, f2, f3⟩ := fin (p + 2) d4 (by omega)
    exact ⟨2, args, p + 2, p + 2 + args.length, x, d1, .inl ⟨rfl, rfl, d3⟩, rfl, f1, f2, hx, f3, hroom⟩
  · have hr2 : r = args ++ rest := by injection hl
    rw [hr2] at d2
    obtain ⟨f1, f2, f3⟩ := fin (p + 1) d2 (by omega)
    exact ⟨c, args, p + 1, p + 1 + args.length, x, d1, .inr ⟨hc, hc', rfl, hn⟩, rfl, f1, f2, hx, f3, hroom⟩

/-! ### sizes -/
def dens (n : Nat) : Nat → Nat
  | 0 => 1
  | j + 1 => dens n j * tri (n - j)
theorem wsum_blinds {r : Rule} {s : Urn} (G : GoodR r) (hl : s.length = r.k) : ∀ j, j < total s → wsum (wblinds r j [(s, 1)]) = dens (total s) j
  | 0, _ => rfl
  | j + 1, h => by
    obtain ⟨_, ok⟩ := blinds_start G hl (j := j) (by omega)
    rw [wblinds_succ, wsum_blind G ok.all, wsum_blinds G hl j (by omega)]
    rfl
theorem dens_small {n j : Nat} (hn : n ≤ 8) (hj : j < n) : dens n j ≤ 2000000 := by
  have h : ∀ n, n ≤ 8 → ∀ j, j < n → dens n j ≤ 2000000 := by decide
  exact h n hn j hj
theorem hits_len {r : Rule} (G : GoodR r) (s : Urn) (w : Nat) : (hits r s w).length ≤ 10 := by
  unfold hits
  exact Nat.le_trans (List.length_filterMap_le _ _) (twos_len G.k4)
theorem flat_len {r : Rule} (G : GoodR r) : ∀ l : Ways, (l.flatMap fun x => hits r x.1 x.2).length ≤ 10 * l.length
  | [] => by simp
  | x :: l => by
    have h1 := hits_len G x.1 x.2
    have h2 := flat_len G l
    rw [List.flatMap_cons, List.length_append, List.length_cons]
    omega
theorem wblind_len {r : Rule} (G : GoodR r) (l : Ways) : (wblind r l).length ≤ 10 * l.length := by
  have h1 := flat_len G l
  have h2 := len_puts (l.flatMap fun x => hits r x.1 x.2) []
  rw [wblind_eq]
  rw [List.length_nil] at h2
  omega
theorem wblinds_len {r : Rule} (G : GoodR r) (s : Urn) : ∀ j, (wblinds r j [(s, 1)]).length ≤ 10 ^ j
  | 0 => by simp [wblinds]
  | j + 1 => by
    have h1 := wblind_len G (wblinds r j [(s, 1)])
    have h2 := wblinds_len G s j
    rw [wblinds_succ, Nat.pow_succ]
    omega
theorem ten_small {j : Nat} (h : j ≤ 7) : 10 ^ j ≤ 10000000 := Nat.pow_le_pow_right (by decide) h
end UM

end
section
set_option Elab.async false
set_option linter.all false
set_option maxRecDepth 100000
set_option maxHeartbeats 2000000
/-! The data of the program, as the heap bears them. -/
namespace U
open PySem PySem.Spec PyProof.Rows L2
open UM (Ways wput wdraw1 wdraws wblind wblinds wsum ukeys rowsOf rowOf setRule setAt GoodR GoodS)
/-! ### numbers, keys -/
def iv (l : List Nat) : List V := l.map fun (n : Nat) => V.int (n : Int)
def kl (l : List Nat) : List Key := l.map fun (n : Nat) => Sum.inl (n : Int)
theorem kl_iv (l : List Nat) : (kl l).map kV = iv l := by
  unfold kl iv
  rw [List.map_map]
  rfl
theorem kl_inj : ∀ {a b : List Nat}, kl a = kl b → a = b
  | [], [], _ => rfl
  | [], y :: b, h => by cases h
  | x :: a, [], h => by cases h
  | x :: a, y :: b, h => by
    have h1 : (Sum.inl (x : Int) : Key) = Sum.inl (y : Int) := (List.cons.inj h).1
    have h2 : (x : Int) = (y : Int) := Sum.inl.inj h1
    rw [Int.ofNat.inj h2, kl_inj (List.cons.inj h).2]
theorem iv_len (l : List Nat) : (iv l).length = l.length := List.length_map _
theorem iv_at {l : List Nat} {j : Nat} (h : j < l.length) : (iv l)[j]? = some (.int (l.getD j 0 : Nat)) := by
  unfold iv
  rw [List.getElem?_map, List.getD_eq_getElem?_getD, List.getElem?_eq_getElem h]
  rfl
theorem iv_atI {l : List Nat} {j : Nat} (h : j < l.length) : atI (iv l) (j : Int) = some (.int (l.getD j 0 : Nat)) := atI_nat (iv_at h)
theorem iv_set (l : List Nat) (j n : Nat) : (iv l).set j (.int (n : Int)) = iv (l.set j n) := by
  unfold iv
  rw [List.map_set]
theorem iv_ints (l : List Nat) : iv l = (Uw82.ints l).map V.int := by
  unfold iv Uw82.ints
  rw [List.map_map]
  rfl
theorem ints_sum (l : List Nat) : (Uw82.ints l).sum = ((Uw82.total l : Nat) : Int) := by
  rw [UM.total_eq]
  unfold Uw82.ints
  induction l with
  | nil => rfl
  | cons a l ih =>
    rw [List.map_cons, List.sum_cons, List.sum_cons, ih]
    omega
theorem ixN_nat {n j : Nat} (h : j < n) : ixN n (j : Int) = some j := by
  unfold ixN
  rw [if_pos (by omega), if_pos (by omega)]
  simp
/-! ### the dict of the ways -/
def wd (l : Ways) : List (List Key × V) := l.map fun x => (kl x.1, V.int (x.2 : Int))
def wget : Ways → List Nat → Nat
  | [], _ => 0
  | (t, m) :: r, s => if t = s then m else wget r s
theorem wd_len (l : Ways) : (wd l).length = l.length := List.length_map _
theorem wd_cons (t : List Nat) (m : Nat) (r : Ways) : wd ((t, m) :: r) = (kl t, V.int (m : Int)) :: wd r := rfl
theorem wd_get : ∀ (l : Ways) (s : List Nat), (valV (wd l) (kl s)).getD (.int 0) = .int (wget l s : Nat)
  | [], s => rfl
  | (t, m) :: r, s => by
    rw [wd_cons]
    unfold wget
    by_cases h : t = s
    · subst h
      rw [valV_pos rfl, if_pos rfl]
      rfl
    · rw [valV_neg (fun e => h (kl_inj e)), if_neg h]
      exact wd_get r s
theorem wd_val : ∀ {l : Ways} {t : List Nat} {m : Nat}, (ukeys l).Nodup → (t, m) ∈ l → valV (wd l) (kl t) = some (.int (m : Int))
  | [], t, m, _, h => by cases h
  | (t', m') :: r, t, m, nd, h => by
    have nd' : (t' :: ukeys r).Nodup := nd
    obtain ⟨h1, h2⟩ := List.nodup_cons.mp nd'
    rw [wd_cons]
    rcases List.mem_cons.mp h with e | e
    · cases e
      rw [valV_pos rfl]
    · rw [valV_neg (fun q => ?_)]
      · exact wd_val h2 e
      · have : t' = t := kl_inj q
        subst this
        exact h1 (List.mem_map.mpr ⟨_, e, rfl⟩)
theorem wd_any (l : Ways) (s : List Nat) : ((wd l).any fun kv => decide (kv.1 = kl s)) = decide (s ∈ ukeys l) := by
  induction l with
  | nil => rfl
  | cons x r ih =>
    obtain ⟨t, m⟩ := x
    rw [wd_cons, List.any_cons, ih]
    show (decide (kl t = kl s) || decide (s ∈ ukeys r)) = decide (s ∈ t :: ukeys r)
    by_cases h : t = s
    · subst h; simp
    · have h1 : ¬ kl t = kl s := fun e => h (kl_inj e)
      have h2 : ¬ s = t := fun e => h e.symm
      simp [h1, h2]
theorem wd_map_out : ∀ {l : Ways} {s : List Nat} {v : V}, s ∉ ukeys l → (wd l).map (fun kv => if kv.1 = kl s then (kv.1, v) else kv) = wd l
  | [], s, v, _ => rfl
  | (t, m) :: r, s, v, h => by
    have h' : s ∉ t :: ukeys r := h
    rw [List.mem_cons, not_or] at h'
    rw [wd_cons, List.map_cons, wd_map_out h'.2, if_neg (fun e => h'.1 (kl_inj e).symm)]
theorem wd_map_in : ∀ {l : Ways} {s : List Nat} {n : Nat}, (ukeys l).Nodup → s ∈ ukeys l → (wd l).map (fun kv => if kv.1 = kl s then (kv.1, V.int ((wget l s : Nat) + (n : Nat) : Int)) else kv) = wd (wput l s n)
  | [], s, n, _, h => by cases h
  | (t, m) :: r, s, n, nd, h => by
    have nd' : (t :: ukeys r).Nodup := nd
    obtain ⟨h1, h2⟩ := List.nodup_cons.mp nd'
    rw [wd_cons, List.map_cons]
    unfold wput wget
    by_cases e : t = s
    · subst e
      rw [if_pos rfl, if_pos rfl, if_pos rfl, wd_map_out h1, wd_cons]
      rfl
    · have e' : ¬ kl t = kl s := fun q => e (kl_inj q)
      have hs : s ∈ ukeys r := by
        have h' : s ∈ t :: ukeys r := h
        rcases List.mem_cons.mp h' with q | q
        · exact absurd q.symm e
        · exact q
      rw [if_neg e', if_neg e, if_neg e, wd_map_in h2 hs, wd_cons]
theorem wput_new : ∀ {l : Ways} {s : List Nat} {n : Nat}, s ∉ ukeys l → wput l s n = l ++ [(s, n)] ∧ wget l s = 0
  | [], s, n, _ => ⟨rfl, rfl⟩
  | (t, m) :: r, s, n, h => by
    have h' : s ∉ t :: ukeys r := h
    rw [List.mem_cons, not_or] at h'
    obtain ⟨h1, h2⟩ := wput_new (n := n) h'.2
    unfold wput wget
    rw [if_neg (fun e => h'.1 e.symm), if_neg (fun e => h'.1 e.symm), h1]
    exact ⟨rfl, h2⟩
theorem wd_put {l : Ways} {s : List Nat} {n : Nat} (nd : (ukeys l).Nodup) : putK (wd l) (kl s) (.int ((wget l s : Nat) + (n : Nat) : Int)) = wd (wput l s n) := by
  unfold putK
  rw [wd_any]
  by_cases h : s ∈ ukeys l
  · rw [decide_eq_true h, if_pos rfl, wd_map_in nd h]
  · obtain ⟨h1, h2⟩ := wput_new (n := n) h
    rw [decide_eq_false h, if_neg Bool.false_ne_true, h1, h2]
    unfold wd
    rw [List.map_append]
    have e : (((0 : Nat) : Int) + (n : Int)) = (n : Int) := by omega
    rw [e]
    rfl
theorem wd_at {l : Ways} {i : Nat} {k : List Key} {v : V} (h : (wd l)[i]? = some (k, v)) : ∃ t m, l[i]? = some (t, m) ∧ k = kl t ∧ v = .int (m : Int) := by
  unfold wd at h
  rw [List.getElem?_map] at h
  cases e : l[i]? with
  | none => rw [e] at h; cases h
  | some x =>
    rw [e] at h
    obtain ⟨t, m⟩ := x
    have h' := Option.some.inj h
    exact ⟨t, m, rfl, (congrArg Prod.fst h').symm, (congrArg Prod.snd h').symm⟩
theorem wd_vals (l : Ways) : (wd l).map (·.2) = (l.map fun x => (x.2 : Int)).map V.int := by
  unfold wd
  rw [List.map_map, List.map_map]
  rfl
theorem wsum_int (l : Ways) : (l.map fun x => (x.2 : Int)).sum = ((wsum l : Nat) : Int) := by
  unfold wsum
  induction l with
  | nil => rfl
  | cons a l ih =>
    rw [List.map_cons, List.sum_cons, List.map_cons, List.sum_cons, ih]
    omega
theorem take_snoc {α : Type} : ∀ {l : List α} {i : Nat} {x : α}, l[i]? = some x → l.take (i + 1) = l.take i ++ [x]
  | [], i, x, h => by simp at h
  | a :: l, 0, x, h => by
    have e : a = x := Option.some.inj h
    subst e
    rfl
  | a :: l, i + 1, x, h => by
    have ih := take_snoc (l := l) (i := i) (x := x) h
    show a :: l.take (i + 1) = a :: l.take i ++ [x]
    rw [ih]
    rfl
/-! ### rows -/
/-- the list at p holds the rows at as (no two alike), which are M -/
structure RowsA (H : Hp) (p : Addr) (as : List Addr) (M : List (List Nat)) : Prop where
  lst : H p = some (.lst (as.map V.ref))
  nd : as.Nodup
  len : as.length = M.length
  at_ : ∀ (j : Nat) (a : Addr), as[j]? = some a → ∃ row, M[j]? = some row ∧ H a = some (.lst (iv row))
theorem RowsA.keep {H H' : Hp} {p : Addr} {as : List Addr} {M : List (List Nat)} (R : RowsA H p as M) (h : ∀ b o, b = p ∨ b ∈ as → H b = some o → H' b = some o) : RowsA H' p as M :=
  ⟨h _ _ (.inl rfl) R.lst, R.nd, R.len, fun j a e => let ⟨row, h1, h2⟩ := R.at_ j a e; ⟨row, h1, h _ _ (.inr (List.mem_of_getElem? e)) h2⟩⟩
theorem RowsA.same {H H' : Hp} {p : Addr} {as : List Addr} {M : List (List Nat)} (R : RowsA H p as M) (s : Same H H') : RowsA H' p as M := R.keep fun b o _ e => s b o e
theorem RowsA.get {H : Hp} {p : Addr} {as : List Addr} {M : List (List Nat)} (R : RowsA H p as M) {j : Nat} {row : List Nat} (h : M[j]? = some row) : ∃ a, as[j]? = some a ∧ H a = some (.lst (iv row)) := by
  have hj : j < as.length := by
    rw [R.len]
    exact (List.getElem?_eq_some_iff.mp h).1
  refine ⟨as[j], List.getElem?_eq_getElem hj, ?_⟩
  obtain ⟨row', h1, h2⟩ := R.at_ j as[j] (List.getElem?_eq_getElem hj)
  rw [h] at h1
  cases h1
  exact h2
theorem RowsA.ref {H : Hp} {p : Addr} {as : List Addr} {M : List (List Nat)} (R : RowsA H p as M) {j : Nat} {a : Addr} (h : as[j]? = some a) : atI (as.map V.ref) (j : Int) = some (.ref a) := by
  refine atI_nat ?_
  rw [List.getElem?_map, h]
  rfl
/-- a row is written -/
theorem RowsA.set {H : Hp} {p : Addr} {as : List Addr} {M : List (List Nat)} (R : RowsA H p as M) {i : Nat} {a : Addr} {row : List Nat} (ha : as[i]? = some a) (j c : Nat) (hr : M[i]? = some row) :
    RowsA (upd H a (.lst (iv (row.set j c)))) p as (setAt M i j c) := by
  obtain ⟨row', h1, h2⟩ := R.at_ i a ha
  rw [hr] at h1
  cases h1
  have npa : p ≠ a := by
    intro e
    subst e
    rw [R.lst] at h2
    have h3 : as.map V.ref = iv row := HO.lst.inj (Option.some.inj h2)
    have h4 : (as.map V.ref)[i]? = (iv row)[i]? := by rw [h3]
    rw [List.getElem?_map, ha] at h4
    unfold iv at h4
    rw [List.getElem?_map] at h4
    cases q : row[i]? with
    | none => rw [q] at h4; cases h4
    | some z => rw [q] at h4; cases h4
  have hi : i < M.length := (List.getElem?_eq_some_iff.mp hr).1
  refine ⟨by rw [upd_ne npa]; exact R.lst, R.nd, by rw [UM.setAt_len]; exact R.len, fun j' a' ha' => ?_⟩
  unfold setAt
  have hg : M.getD i [] = row := by rw [List.getD_eq_getElem?_getD, hr]; rfl
  rw [hg]
  by_cases e : j' = i
  · subst e
    rw [ha] at ha'
    cases ha'
    exact ⟨_, List.getElem?_set_self hi, upd_same⟩
  · have na : a' ≠ a := fun q => e (nd_ix R.nd ha' (by rw [q]; exact ha))
    obtain ⟨row2, q1, q2⟩ := R.at_ j' a' ha'
    exact ⟨row2, by rw [List.getElem?_set_ne (fun q => e q.symm)]; exact q1, by rw [upd_ne na]; exact q2⟩
/-! ### the urn's own object -/
def uf (po pb : Addr) : List (Str × V) := [("outcomes", .ref po), ("balls", .ref pb)]
structure UrnAt (C : Addr) (H : Hp) (p : Addr) (own : List Addr) (s : Uw82.St) : Prop where
  ex : ∃ dx po pb as, own = p :: po :: pb :: as ∧ H p = some (.ins C dx (uf po pb)) ∧ RowsA H po as (rowsOf s.rule) ∧ H pb = some (.lst (iv s.urn)) ∧ pb ∉ as
theorem UrnAt.keep {C : Addr} {H H' : Hp} {p : Addr} {own : List Addr} {s : Uw82.St} (U : UrnAt C H p own s) (h : ∀ b o, b ∈ own → H b = some o → H' b = some o) : UrnAt C H' p own s := by
  obtain ⟨dx, po, pb, as, rfl, h1, h2, h3, h4⟩ := U.ex
  exact ⟨dx, po, pb, as, rfl, h _ _ (by simp) h1, h2.keep fun b o hb => h b o (by rcases hb with rfl | hb <;> simp [*]), h _ _ (by simp) h3, h4⟩
theorem UrnAt.same {C : Addr} {H H' : Hp} {p : Addr} {own : List Addr} {s : Uw82.St} (U : UrnAt C H p own s) (h : Same H H') : UrnAt C H' p own s := U.keep fun b o _ e => h b o e
theorem Same.upd {H H1 : Hp} {p : Addr} (s : Same H H1) (hp : H p = none ∨ H1 p = none) (o : HO) : Same H (upd H1 p o) := fun b u e => by
  have hb : b ≠ p := by
    intro q
    subst q
    rcases hp with z | z
    · rw [e] at z; cases z
    · rw [s _ _ e] at z; cases z
  rw [upd_ne hb]
  exact s _ _ e
theorem same_new {H : Hp} {p : Addr} (hp : H p = none) (o : HO) : Same H (L2.upd H p o) := Same.upd (Same.refl H) (.inl hp) o
end U

end
section
set_option Elab.async false
set_option linter.all false
set_option maxRecDepth 100000
set_option maxHeartbeats 2000000
namespace U
open PySem
/-! ### a dict by its entries alone: len, values, sum of the values -/
section
variable {prog : Program} {w : World} {A : Around} {E : Value → Shared → Prop} {s : Shared}
/-- what stands at q is a dict with these entries -/
structure RawD (h : Heap) (q : Addr) (o : Obj) (es : Array DictEntry) (ep : Nat) : Prop where
  ob : h.get? q = some o
  ex : o.ExactDict
  dt : o.data = .dict es ep
theorem RawD.ty {q : Addr} {o : Obj} {es : Array DictEntry} {ep : Nat} (D : RawD s.heap q o es ep) : s.TypeIs (.ref q) "dict" := ⟨o, D.ob, D.ex.1⟩
theorem RawD.to {h h' : Heap} {q : Addr} {o : Obj} {es : Array DictEntry} {ep : Nat} (D : RawD h q o es ep) (k : ∀ u, h.get? q = some u → h'.get? q = some u) : RawD h' q o es ep := ⟨k _ D.ob, D.ex, D.dt⟩
theorem meets_lenD (q : Addr) (hq : (q == sysModules) = false) :
    MeetsIn prog w (Builtin.«dict.__len__» ⟨[.ref q], []⟩) (fun _ R s => ∃ o es ep, RawD s.heap q o es ep ∧ R (.ok (.ret (.int es.size s.toks))) { s with toks := s.toks + 1 }) :=
  .of_wp fun A R s ⟨o, es, ep, D, h⟩ => by
    show wpAny _ _ (dictSize q >>= _) _ _ s
    unfold dictSize
    refine wpAny_bind (wpAny_bind (wpAny_dictEntries D.ob D.dt (wpAny_pure ?_)))
    show wpAny _ _ (Builtin.Dict.pendingCount q >>= _) _ _ s
    refine wpAny_bind (wpAny_pendingCount_other hq ?_)
    refine wpAny_ret_mkInt ?_
    rw [Nat.add_zero]
    exact h
theorem len_rawD {q : Addr} {o : Obj} {es : Array DictEntry} {ep : Nat} {Q : Value → Shared → Prop} (hq : (q == sysModules) = false) (D : RawD s.heap q o es ep) (fit : (es.size : Int) < 2 ^ 63)
    (h : ∀ t tk, Q (.int es.size t) { s with toks := tk }) : wpAny (model prog w) A (call (.builtin "len") [.ref q]) Q E s := by
  refine Calls.call_function_entry kind_len plain_len entry_len (args_len1 _) ?_
  unfold Builtin.«len»
  refine wpAny_bind (m := oneArg "len" _) (wpAny_pure ?_)
  refine wpAny_bind (wpAny_callSpecial?_slot D.ty F.slot_dict_len (call_meetsIn F.slot_dict_len D.ty F.entry_dict_len (F.args_dict_len_1 _) (meets_lenD q hq) ⟨o, es, ep, D, ?_⟩))
  show wpAny _ _ _ _ _ { s with toks := s.toks + 1 }
  refine wpAny_bind (wpAny_holding (wpAny_pure (wpAny_bind (wpAny_letGo ?_))))
  show wpAny _ _ (if ((es.size : Nat) : Int) < 0 then _ else _) _ _ _
  rw [if_neg (Int.not_lt.mpr (Int.natCast_nonneg _))]
  show wpAny _ _ (if ((es.size : Nat) : Int) ≥ 2 ^ 63 then _ else _) _ _ _
  rw [if_neg (Int.not_le.mpr fit)]
  exact wpAny_bind (wpAny_mkInt (wpAny_pure ⟨_, rfl, h _ _⟩))
/-- q.values() -/
def viewOb (q : Addr) : Obj := { cls := .type "dict_values", data := .fields #[.ref q] }
theorem meets_viewD (q : Addr) (hq : (q == sysModules) = false) :
    MeetsIn prog w (Builtin.«dict.values» ⟨[.ref q], []⟩) (fun _ R s => s.TypeIs (.ref q) "dict" ∧ R (.ok (.ret (.ref s.heap.objs.size))) { s with heap := s.heap.push (viewOb q) }) :=
  .of_wp fun A R s ⟨ty, h⟩ => by
    refine wpAny_bind ?_
    unfold Builtin.Dict.noArgs
    refine wpAny_bind (wpAny_notOrdered_dict ty ?_)
    show wpAny _ _ (pure q) _ _ s
    refine wpAny_pure ?_
    show wpAny _ _ (Builtin.Dict.showsAll q >>= _) _ _ s
    unfold Builtin.Dict.showsAll
    rw [if_neg (by rw [hq]; decide)]
    exact wpAny_bind (wpAny_pure (wpAny_bind (wpAny_newObj_type (wpAny_pure ⟨_, rfl, h⟩))))
/-- its iterator -/
def turnOb (q : Addr) (i n ep : Nat) : Obj := { cls := .type "dict_valueiterator", data := .fields #[.ref q, .int i 0, .int n 0, .int ep 0] }
theorem iter_viewD {v q : Addr} {o : Obj} {es : Array DictEntry} {ep : Nat} {Q : Value → Shared → Prop} (hv : s.heap.get? v = some (viewOb q)) (D : RawD s.heap q o es ep)
    (h : Q (.ref s.heap.objs.size) { s with heap := s.heap.push (turnOb q 0 es.size ep) }) : wpAny (model prog w) A (pyIter (.ref v)) Q E s := by
  have ty : s.TypeIs (.ref v) "dict_values" := ⟨_, hv, rfl⟩
  refine wpAny_pyIter_slot ty F.slot_dict_values_iter (wpAny_call_entry F.slot_dict_values_iter ty F.entry_dict_values_iter ?_ (F.args_dict_values_iter_1 _))
  unfold Builtin.«dict_values.__iter__»
  refine wpAny_bind (wpAny_pure (wpAny_bind ?_))
  unfold Builtin.Dict_items.dictOf
  refine wpAny_bind (wpAny_field hv rfl (x := .ref q) rfl (wpAny_pure (wpAny_bind ?_)))
  unfold Builtin.Dict_items.newIterator
  refine wpAny_bind (wpAny_dictEntries D.ob D.dt (wpAny_bind (wpAny_dictEpoch D.ob D.dt ?_)))
  have no : Builtin.Dict_items.ownsTuple "dict_valueiterator" = false := by decide
  simp only [no, Bool.false_eq_true, if_false]
  refine wpAny_newObj_type (wpAny_pure ⟨_, rfl, "dict_valueiterator", _, ⟨_, Heap.get?_push_size _ rfl, rfl⟩, F.slot_dict_valueiterator_next.lookup, ?_⟩)
  simpa [rawInt, turnOb] using h
theorem next_viewD {it q : Addr} {i n ep : Nat} {o : Obj} {es : Array DictEntry} {en : DictEntry} {Q : Option Value → Shared → Prop} (hi : s.heap.get? it = some (turnOb q i n ep)) (D : RawD s.heap q o es ep)
    (hn : es.size = n) (hx : es[i]? = some en) (h : ∀ h', h'.get? it = some (turnOb q (i + 1) n ep) → Heap.SameBut it s.heap h' → Q (some en.val) { s with heap := h' }) : wpAny (model prog w) A (pyNext (.ref it)) Q E s := by
  have ty : s.TypeIs (.ref it) "dict_valueiterator" := ⟨_, hi, rfl⟩
  obtain ⟨lt, he⟩ := Array.getElem?_eq_some_iff.mp hx
  have no : Builtin.Dict_items.ownsTuple "dict_valueiterator" = false := by decide
  unfold pyNext
  refine wpAny_bind (wpAny_attempt (wpAny_callSpecial?_slot (name := Str.ofString "__next__") ty F.slot_dict_valueiterator_next
    (wpAny_call_entry F.slot_dict_valueiterator_next ty F.entry_dict_valueiterator_next ?_ (F.args_dict_valueiterator_next_1 _))))
  refine wpAny_bind (wpAny_pure (wpAny_bind (wpAny_bind ?_)))
  first | refine wpAny_bind (wpAny_typeNameOfWhole_valiter ty (wpAny_pure ?_)) | refine wpAny_bind (wpAny_typeNameOf_valiter ty (wpAny_pure ?_))
  refine wpAny_bind (wpAny_fieldsOf hi rfl ?_)
  simp only [no, Bool.false_eq_true, if_false]
  show wpAny _ _ (if (Value.ref q == Value.none) = true then _ else _) _ _ s
  rw [if_neg (show ¬ ((Value.ref q == Value.none) = true) from Bool.false_ne_true)]
  refine wpAny_bind (wpAny_pure (wpAny_bind (wpAny_dictEntries D.ob D.dt ?_)))
  rw [if_neg (by rw [hn]; simp)]
  refine wpAny_bind (wpAny_pure (wpAny_bind (wpAny_dictEpoch D.ob D.dt ?_)))
  rw [if_neg (by simp)]
  refine wpAny_pure ?_
  simp only [show ¬ ((i : Int) < 0) from by omega, if_false, Int.toNat_natCast, Array.getElem?_eq_getElem lt]
  refine wpAny_bind ?_
  first | refine wpAny_bind (wpAny_typeNameOfWhole_valiter ty (wpAny_pure ?_)) | refine wpAny_bind (wpAny_typeNameOf_valiter ty (wpAny_pure ?_))
  refine wpAny_bind (wpAny_isOneOf_valiter ty ?_)
  show wpAny _ _ (setField (.ref it) 1 (rawInt ((i : Int) + 1)) >>= _) _ _ _
  refine wpAny_bind (wpAny_setField hi rfl (by simp) ?_)
  generalize hh : s.heap.update it (Obj.mapFields (·.setIfInBounds 1 (rawInt ((i : Int) + 1)))) = h1
  have hi' : h1.get? it = some (turnOb q (i + 1) n ep) := by
    rw [← hh, Heap.get?_update_self _ hi rfl]
    simp [turnOb, Obj.mapFields, rawInt]
  have sb : Heap.SameBut it s.heap h1 := by rw [← hh]; exact Heap.SameBut.update ..
  have ty' : Shared.TypeIs { s with heap := h1 } (.ref it) "dict_valueiterator" := ⟨_, hi', rfl⟩
  refine wpAny_bind (wpAny_holding (wpAny_bind (wpAny_isOneOf_valiter ty' (wpAny_bind (wpAny_isOneOf_valiter ty' ?_)))))
  show wpAny _ _ (pure es[i].val) _ _ _
  rw [he]
  exact wpAny_pure (wpAny_pure ⟨_, rfl, wpAny_pure (h _ hi' sb)⟩)
theorem end_viewD {it q : Addr} {i n ep : Nat} {o : Obj} {es : Array DictEntry} {Q : Option Value → Shared → Prop} (hh : A.handled = none) (hi : s.heap.get? it = some (turnOb q i n ep)) (D : RawD s.heap q o es ep)
    (hn : es.size = n) (ge : n ≤ i) (h : ∀ h', Heap.ExtBut it s.heap h' → Q none { s with heap := h' }) : wpAny (model prog w) A (pyNext (.ref it)) Q E s := by
  have ty : s.TypeIs (.ref it) "dict_valueiterator" := ⟨_, hi, rfl⟩
  have no : Builtin.Dict_items.ownsTuple "dict_valueiterator" = false := by decide
  unfold pyNext
  refine wpAny_bind (wpAny_attempt (wpAny_callSpecial?_slot (name := Str.ofString "__next__") ty F.slot_dict_valueiterator_next
    (wpAny_call_entry F.slot_dict_valueiterator_next ty F.entry_dict_valueiterator_next ?_ (F.args_dict_valueiterator_next_1 _))))
  refine wpAny_bind (wpAny_pure (wpAny_bind (wpAny_bind ?_)))
  first | refine wpAny_bind (wpAny_typeNameOfWhole_valiter ty (wpAny_pure ?_)) | refine wpAny_bind (wpAny_typeNameOf_valiter ty (wpAny_pure ?_))
  refine wpAny_bind (wpAny_fieldsOf hi rfl ?_)
  simp only [no, Bool.false_eq_true, if_false]
  show wpAny _ _ (if (Value.ref q == Value.none) = true then _ else _) _ _ s
  rw [if_neg (show ¬ ((Value.ref q == Value.none) = true) from Bool.false_ne_true)]
  refine wpAny_bind (wpAny_pure (wpAny_bind (wpAny_dictEntries D.ob D.dt ?_)))
  rw [if_neg (by rw [hn]; simp)]
  refine wpAny_bind (wpAny_pure (wpAny_bind (wpAny_dictEpoch D.ob D.dt ?_)))
  rw [if_neg (by simp)]
  refine wpAny_pure ?_
  have ge' : es.size ≤ i := by rw [hn]; exact ge
  simp only [show ¬ ((i : Int) < 0) from by omega, if_false, Int.toNat_natCast, Array.getElem?_eq_none ge']
  refine wpAny_bind ?_
  first | refine wpAny_bind (wpAny_typeNameOfWhole_valiter ty (wpAny_pure ?_)) | refine wpAny_bind (wpAny_typeNameOf_valiter ty (wpAny_pure ?_))
  show wpAny _ _ (setField (.ref it) 0 .none >>= _) _ _ _
  refine wpAny_bind (wpAny_setField hi rfl (by simp) ?_)
  show wpAny _ _ (newExc (.type "StopIteration") [] >>= _) _ _ _
  refine wpAny_bind ?_
  simp only [newExc, newTuple]
  refine wpAny_bind (wpAny_newObj_type ?_ (by size_fits))
  refine wpAny_bind (m := firstArgMember _ _) (wpAny_of_eq (a := Value.none) (by first | rfl | (simp only [firstArgMember]; rfl)) ?_)
  refine wpAny_newObj_type ?_ (by size_fits)
  simp only [raiseNew]
  refine wpAny_bind (wpAny_handled ?_)
  rw [show A.in1.handled = none from hh]
  refine wpAny_bind (wpAny_pure (wpAny_throw ?_))
  refine wpAny_bind (wpAny_isInstance (T := "StopIteration") (b := true) ⟨_, Heap.get?_push_size _ rfl, rfl⟩ isSubtype_stop ?_)
  exact wpAny_pure (h _ (((Heap.SameBut.update ..).extBut.push _).push _))
theorem walks_viewD (hh : A.handled = none) (it q : Addr) (hne : q ≠ it) (o : Obj) (es : Array DictEntry) (ep : Nat) :
    Walks prog w A it [it, q] [it] es.size (fun i v => ∃ en, es[i]? = some en ∧ v = en.val) (fun i h => h.get? it = some (turnOb q i es.size ep) ∧ RawD h q o es ep) where
  sub := fun b hb => by simp at hb; simp [hb]
  frame := fun _ _ _ st k => ⟨k it (by simp) _ st.1, st.2.to fun u e => k q (by simp) u e⟩
  item := fun i s Q E lt st hQ => by
    have hx : es[i]? = some es[i] := by simp [lt]
    refine next_viewD st.1 st.2 rfl hx fun h' hi' sb => ?_
    exact hQ _ h' s.toks ⟨_, hx, rfl⟩ ⟨hi', st.2.to fun u e => sb.extBut q u hne e⟩ fun b u hb e => sb.extBut b u (fun z => hb (by simp [z])) e
  done := fun s Q E st hQ => end_viewD hh st.1 st.2 rfl (Nat.le_refl _) fun h' eb => hQ h' s.toks fun b u hb e => eb b u (fun z => hb (by simp [z])) e
  self := fun i s Q E st hQ => by
    have ty : s.TypeIs (.ref it) "dict_valueiterator" := ⟨_, st.1, rfl⟩
    exact wpAny_pyIter_valiter (i := i) (n := es.size) (ep := ep) (d := q) ⟨_, st.1, rfl, rfl⟩ hQ
theorem sum_viewD {v q : Addr} {o : Obj} {es : Array DictEntry} {ep : Nat} {Q : Value → Shared → Prop} (hh : A.handled = none) (hv : s.heap.get? v = some (viewOb q)) (D : RawD s.heap q o es ep) (val : Nat → Int)
    (hval : ∀ (i : Nat) (en : DictEntry), es[i]? = some en → ∃ t, en.val = .int (val i) t)
    (h : ∀ (h' : Heap) (tk : Nat) (t : Tok), (∀ b u, s.heap.get? b = some u → h'.get? b = some u) → Q (.int (preSum val es.size) t) { s with heap := h', toks := tk }) :
    wpAny (model prog w) A (call (.builtin "sum") [.ref v]) Q E s := by
  refine call_sum_walkAnyS (iter_viewD hv D ?_)
  have hq := Heap.lt_size D.ob
  refine ⟨s.heap.objs.size, _, _, _, _, _, _, val, rfl, (walks_viewD (A := A.in1) hh s.heap.objs.size q (Nat.ne_of_lt hq) o es ep).toS, ⟨Heap.get?_push_size _ rfl, D.to fun u e => Heap.get?_push_of_some _ e⟩, fun b hb => ?_, fun i x hx => ?_, fun s' t' hm => ?_⟩
  · show b < (s.heap.push (turnOb q 0 es.size ep)).objs.size
    rw [Heap.size_push]
    rcases List.mem_cons.mp hb with e | hb
    · rw [e]; exact Nat.lt_succ_self _
    · rw [List.mem_singleton.mp hb]; exact Nat.lt_succ_of_lt hq
  · obtain ⟨en, h1, rfl⟩ := hx
    exact hval i en h1
  · have hk : ∀ b u, s.heap.get? b = some u → s'.heap.get? b = some u := fun b u e =>
      hm.heap b u (fun z => absurd (Heap.lt_size e) (by rw [List.mem_singleton.mp z]; exact Nat.lt_irrefl _)) (Heap.get?_push_of_some _ e)
    rw [Moved.eq_with hm]
    exact h s'.heap s'.toks t' hk
end
end U

namespace U
open PySem
open SeqAt
theorem forIn_upto {M : Model} {A : Around} {E : Value → Shared → Prop} {s : Shared} {β : Type} {n : Nat} (f : Nat → β → Sem (ForInStep β)) (I : Nat → β → Shared → Prop) (Q : β → Shared → Prop)
    (turn : ∀ i b s, i < n → I i b s → wpAny M A (f i b) (fun r s' => match r with | .yield b' => I (i + 1) b' s' | .done b' => Q b' s') E s) (fin : ∀ b s, I n b s → Q b s) (b : β) (h : I 0 b s) :
    wpAny M A (forIn ([0:n] : Std.Legacy.Range) b f) Q E s := by
  rw [Std.Legacy.Range.forIn_eq_forIn_range']
  have hsz : ([0:n] : Std.Legacy.Range).size = n := by simp [Std.Legacy.Range.size]
  show wpAny M A (forIn (List.range' 0 ([0:n] : Std.Legacy.Range).size 1) b f) Q E s
  rw [hsz]
  refine wpAny_forIn_list f (fun rest b s => ∃ i, rest = List.range' i (n - i) ∧ i ≤ n ∧ I i b s) Q ?_ ?_ _ b ⟨0, rfl, Nat.zero_le _, h⟩
  · rintro x rest b s ⟨i, e, hi, hI⟩
    have hlt : i < n := by
      rcases Nat.lt_or_ge i n with q | q
      · exact q
      · have z : n - i = 0 := by omega
        rw [z] at e; cases e
    have e2 : n - i = (n - (i + 1)) + 1 := by omega
    rw [e2, List.range'_succ] at e
    obtain ⟨e3, e4⟩ := List.cons.inj e
    subst e3
    refine wpAny_mono (turn x b s hlt hI) (fun r s' q => ?_) fun _ _ z => z
    cases r with
    | yield b' => exact ⟨x + 1, e4, hlt, q⟩
    | done b' => exact q
  · rintro b s ⟨i, e, hi, hI⟩
    have z : n - i = 0 := by
      have := congrArg List.length e
      rw [List.length_range'] at this
      exact this.symm
    have : i = n := by omega
    subst this
    exact fin b s hI
theorem tuple_indexU (l : Addr) (its : Array Value) (n : Nat) (dd : Option Addr) (sl : Array (Option Value)) (x : Value) (e : Value → Bool) (j : Nat) (hj : j < its.size) (yes : e its[j] = true) (no : ∀ m (hm : m < its.size), m < j → e its[m] = false) :
    Meets (Builtin.«tuple.index» ⟨[.ref l, x], []⟩)
      (fun A R s => s.heap.get? l = some { cls := .type "tuple", dict := dd, data := .seq its n, slots := sl } ∧ (∀ y, y ∈ its → EqAt A.in1 s y x (e y)) ∧ R (.ok (.ret (.int j s.toks))) { s with toks := s.toks + 1 }) :=
  .of_wp fun prog w A R s h => by
    obtain ⟨hp, g, d, tk, os⟩ := s
    obtain ⟨hl, he, h⟩ := h
    have emin : min its.size its.size = its.size := Nat.min_self _
    wp_walk using wpAny_loadPart' hl, forIn_upto _ (fun i b s' => b.1 = none ∧ s' = ⟨hp, g, d, tk, os⟩ ∧ i ≤ j) _
    case turn =>
      rintro i ⟨b1, b2⟩ s' hi ⟨rfl, rfl, hij⟩
      rw [emin] at hi
      rw [Array.getElem?_eq_getElem hi]
      refine wpAny_bind (he _ (Array.getElem_mem hi) prog w _ _ ?_)
      by_cases q : i = j
      · subst q
        rw [yes]
        wp_walk
        exact ⟨_, rfl, h⟩
      · rw [no i hi (by omega)]
        wp_walk
        exact ⟨rfl, rfl, by omega⟩
    case fin =>
      rintro ⟨b1, b2⟩ s' ⟨hb, rfl, hR⟩
      rw [emin] at hR
      omega
    case h =>
      exact ⟨rfl, rfl, Nat.zero_le _⟩
end U

namespace U
open PySem PySem.Spec PyProof.Rows L2
/-! ### the same, over the layer -/
section
variable {X : Cx} {pins : List (Addr × Obj)} {σ : L2.St} {H : Hp} {s : Shared}
theorem rawT (I : L2.Inv X pins σ H s) {d : Addr} {kvs : List (List Key × V)} (e : Rd H d (.dT kvs)) : (d == sysModules) = false ∧ kvs.length ≤ sizeLine ∧ ∃ o es ep, RawD s.heap d o es ep ∧ es.size = kvs.length ∧
    ∀ (i : Nat) (k : List Key) (v : V), kvs[i]? = some (k, v) → ∃ en, es[i]? = some en ∧ RelV v en.val := by
  obtain ⟨z, y, xs, pr, o, es, ep, h1, h2, h3, h4, h5⟩ := (show ObjOk X.prog X.w H s.heap d (.dT kvs) from e.ok I.hok)
  have l1 : es.size = xs.length := size_of_entries h4
  have l2 : kvs.length = xs.length := Paired.length pr
  refine ⟨y, z, o, es, ep, ⟨h1, h2, h3⟩, by omega, fun i k v q => ?_⟩
  obtain ⟨b, hb, e1, e2, e3⟩ := paired_get pr q
  have q2 := entry_at h4 i
  rw [hb] at q2
  exact ⟨_, q2, e3⟩
theorem call_lenT : CallR X (.builtin "len") (fun xs H Q => ∃ a kvs, xs = [V.ref a] ∧ Rd H a (.dT kvs) ∧ Q (.int kvs.length) H) := by
  intro pins s σ H xs us Q I r h
  obtain ⟨a, kvs, rfl, e, q⟩ := h
  obtain ⟨u, rfl, ru⟩ := vals1 r
  cases ru
  obtain ⟨y, z, o, es, ep, D, l, _⟩ := rawT I e
  have hs := sizeLine_eq
  exact len_rawD y D (by omega) fun t tk => ⟨.int kvs.length, H, I.tok _, ⟨t, by rw [l]⟩, q⟩
/-- a view of a dict's values, as the heap bears it -/
def viewH (v q : Addr) : HO := .ext fun h => h.get? v = some (viewOb q)
def tVals (td : TE) : TE := fun σ H Q => td σ H fun x H1 => ∃ q kvs, x = .ref q ∧ Rd H1 q (.dT kvs) ∧ ∀ v, H1 v = none → Q (.ref v) (upd H1 v (viewH v q))
theorem pe_vals {e : Expr} {td : TE} {apos cpos : Pos} (he : PE X e td) (hbase : attributeBase e "values" X.env (eval e X.env) = eval e X.env := by rfl) (hline : (apos.endLine == cpos.line) = true := by rfl) :
    PE X (.Call (.Attribute e "values" apos) [] [] cpos) (tVals td) := by
  intro pins s σ H Q I h
  refine wpAny_Call_method (T := "dict") (id := "dict.values") hbase rfl hline F.plainAttrs_dict F.slot_dict_values F.type_dict_values (thn (he pins s σ H _ I h) fun u s1 ⟨x, H1, I1, rx, d, kvs, ex, hd, q⟩ => ?_)
  subst ex
  obtain rfl : u = Value.ref d := rx
  obtain ⟨y, z, o, es, ep, D, l, _⟩ := rawT I1 hd
  refine ⟨D.ty, fun b qb => by cases qb; exact ⟨o, D.ob, D.ex.2.1⟩, ?_⟩
  show wpAny _ _ (callWith cpos (.builtin "dict.values") [.ref d] [] []) _ X.xe s1
  refine method_meetsIn F.slot_dict_values F.entry_dict_values rfl (PySem.evalArgs_none ⟨rfl, D.ty, F.args_dict_values_1 _, _, meets_viewD d y, D.ty, ?_⟩)
  have I2 : L2.Inv X pins σ (upd H1 s1.heap.objs.size (viewH s1.heap.objs.size d)) { s1 with heap := s1.heap.push (viewOb d) } :=
    I1.laid (a := s1.heap.objs.size) (o := viewH s1.heap.objs.size d) (t' := s1.toks) (fun b ob q => Heap.get?_push_of_some _ q) (Nat.le_refl _)
      ⟨Heap.get?_push_size _ rfl, ⟨_, Heap.get?_push_size _ rfl⟩, fun h1 h2 p k => k _ p⟩
  exact ⟨.ref _, _, I2, rfl, q _ (I1.hok.fresh (Nat.le_refl _))⟩
theorem preSum_get : ∀ (ns : List Int) (n : Nat), n ≤ ns.length → preSum (fun i => ns.getD i 0) n = (ns.take n).sum
  | ns, 0, _ => by simp [preSum]
  | ns, n + 1, h => by
    have e : ns[n]? = some (ns.getD n 0) := by
      rw [List.getD_eq_getElem?_getD, List.getElem?_eq_getElem (by omega)]
      rfl
    show preSum (fun i => ns.getD i 0) n + ns.getD n 0 = _
    rw [preSum_get ns n (by omega), sum_take e]
theorem cr_sumV (hc : X.calm = true) : CallR X (.builtin "sum") (fun xs H Q => ∃ v q kvs, ∃ ns : List Int, xs = [V.ref v] ∧ H v = some (viewH v q) ∧ Rd H q (.dT kvs) ∧ kvs.map (·.2) = ns.map V.int ∧ Q (.int ns.sum) H) := by
  intro pins s σ H xs us Q I r h
  obtain ⟨v, q, kvs, ns, rfl, hv, hd, e, hq⟩ := h
  obtain ⟨u, rfl, ru⟩ := vals1 r
  cases ru
  obtain ⟨y, z, o, es, ep, D, l, en⟩ := rawT I hd
  obtain ⟨hv1, _, _⟩ := (show ObjOk X.prog X.w H s.heap v (viewH v q) from I.hok v _ hv)
  have hln : kvs.length = ns.length := by
    have := congrArg List.length e
    rwa [List.length_map, List.length_map] at this
  refine sum_viewD (I.ok.hd hc) hv1 D (fun i => ns.getD i 0) (fun i x hx => ?_) fun h' tk t hk => ?_
  · have hi : i < kvs.length := by
      rw [← l]
      exact (Array.getElem?_eq_some_iff.mp hx).1
    obtain ⟨⟨k, x'⟩, hkv⟩ : ∃ p, kvs[i]? = some p := ⟨kvs[i], List.getElem?_eq_getElem hi⟩
    obtain ⟨en', h1, h2⟩ := en i k x' hkv
    rw [hx] at h1
    cases h1
    have h3 : (kvs.map (·.2))[i]? = (ns.map V.int)[i]? := by rw [e]
    rw [List.getElem?_map, hkv, List.getElem?_map, List.getElem?_eq_getElem (by omega)] at h3
    have h4 : x' = V.int ns[i] := Option.some.inj h3
    subst h4
    obtain ⟨t, ht⟩ := h2
    refine ⟨t, ?_⟩
    rw [ht, List.getD_eq_getElem?_getD, List.getElem?_eq_getElem (by omega)]
    rfl
  · refine ⟨.int ns.sum, H, I.kept hk, ⟨t, ?_⟩, hq⟩
    rw [preSum_get ns es.size (by omega), l, hln, List.take_length]
/-- {k: v}, the key a tuple -/
def tDisp1 (tk tv : TE) : TE := fun σ H Q => ∀ p, H p = none → tk σ (upd H p (.dT [])) fun x H1 => tv σ H1 fun y H2 => H2 p = some (.dT []) ∧ ∃ k b, x = .ref b ∧ H2 b = some (.tup (k.map kV)) ∧ Q (.ref p) (upd H2 p (.dT [(k, y)]))
theorem pe_disp1 {k v : Expr} {tk tv : TE} {pos : Pos} (hu : X.A.units + 1 < cLine) (hk : PE X k tk) (hv : PE X v tv) : PE X (.Dict [some k] [v] pos) (tDisp1 tk tv) := by
  intro pins s σ H Q I q
  have hn := I.hok.fresh (Nat.le_refl s.heap.objs.size)
  have I1 := I.laid (a := s.heap.objs.size) (o := .dT []) (h' := s.heap.push { cls := .type "dict", data := .dict #[] }) (t' := s.toks) (fun _ _ q => Heap.get?_push_of_some _ q) (Nat.le_refl _) (dt_empty s.heap I.big)
  refine wpAny_Dict_any rfl rfl (by simp) (by show 1 ≤ 15; decide) (pairTrees_cons_walk (thn (hk pins _ σ _ _ I1 (q _ hn)) fun u s1 ⟨x, H1, I2, rx, q1⟩ => thn (hv pins s1 σ H1 _ I2 q1) fun w2 s2 ⟨y, H2, I3, ry, e, kk, b, ex, eb, q2⟩ => pairTrees_nil_walk ?_))
  subst ex
  obtain rfl : u = Value.ref b := rx
  obtain ⟨z, hd, xs, rel, dd⟩ := dt_of I3.hok e
  cases rel
  unfold storeAll
  rw [List.forIn_cons]
  refine wpAny_bind (wpAny_bind (wpAny_dictSet_heap (hsz := by simp) (knd := tupleKind (mixKind X.prog X.w)) (Nat.lt_of_succ_lt hu) (key_of I3.hok eb) dd fun h' dd' hs => wpAny_pure ?_))
  show wpAny _ _ (forIn ([] : List (Value × Value)) PUnit.unit _) _ _ _
  rw [List.forIn_nil]
  obtain ⟨o, es, ep, hq, h2, h3, h4, _, h5⟩ := dd'
  refine wpAny_pure ⟨.ref s.heap.objs.size, _, d_write (ob := .dT [(kk, y)]) I3 (by rw [e]; exact True.intro) hs ⟨o, hq⟩ ⟨?_, hd, _, (KT.put (kvs := []) (xs := []) Paired.nil kk eb ry).keeps fun c ys ec => ?_, o, es, ep, hq, h2, h3, h4, h5⟩, rfl, q2⟩
  · show 1 ≤ sizeLine
    decide
  · rw [upd_ne (ne_of ec e (fun z => nomatch z))]
    exact ec
/-- t.index(n), of a tuple of whole numbers -/
def tIndexT (to te : TE) : TE := fun σ H Q => to σ H fun x H1 => ∃ a ys, x = .ref a ∧ H1 a = some (.tup ys) ∧ te σ H1 fun y H2 => ∃ j : Nat, ∃ z, H2 a = some (.tup ys) ∧ flatV y = true ∧ ys.all flatV = true ∧ ys[j]? = some z ∧ eqV z y = true ∧
  (∀ (m : Nat) (z' : V), m < j → ys[m]? = some z' → eqV z' y = false) ∧ Q (.int (j : Nat)) H2
theorem pe_indexT {o e : Expr} {to te : TE} {apos cpos : Pos} (ho : PE X o to) (he : PE X e te)
    (hbase : attributeBase o "index" X.env (eval o X.env) = eval o X.env := by rfl)
    (hfew : ((backTo cpos (starEach [e] X.env)).all (fun x => !x.1) && (backToKw cpos (keywordEach [] X.env)).all (fun x => x.1.isSome)
      && decide (([e] : List Expr).length + ([] : List Keyword).length + (if ([] : List Keyword).isEmpty then 0 else 1) < 30)) = true := by rfl)
    (hline : (apos.endLine == cpos.line) = true := by rfl) (hs : starEach [e] X.env = [(false, eval e X.env)] := by rfl) :
    PE X (.Call (.Attribute o "index" apos) [e] [] cpos) (tIndexT to te) := by
  intro pins s σ H Q I h
  refine wpAny_Call_method_late hbase hfew hline rfl (thn (ho pins s σ H _ I h) fun v s1 ⟨x, H1, I1, r1, a, ys, ex, ea, q1⟩ => ?_)
  subst ex
  obtain rfl : v = Value.ref a := r1
  obtain ⟨_, its1, _, o1, e1, c1, _, d1⟩ := (show ObjOk X.prog X.w H1 s1.heap a (.tup ys) from I1.hok a _ ea)
  refine ⟨"tuple", "tuple.index", PySem.F.plainAttrs_tuple, PySem.F.slot_tuple_index, PySem.F.type_tuple_index, ⟨o1, e1, c1⟩, fun b qb => by cases qb; exact ⟨o1, e1, d1⟩, ?_⟩
  have hA := (pa_cons he pa_nil hs) cpos pins s1 σ H1 (fun vs H2 => match vs with
    | [y] => ∃ j : Nat, ∃ z, H2 a = some (.tup ys) ∧ flatV y = true ∧ ys.all flatV = true ∧ ys[j]? = some z ∧ eqV z y = true ∧ (∀ (m : Nat) (z' : V), m < j → ys[m]? = some z' → eqV z' y = false) ∧ Q (.int (j : Nat)) H2
    | _ => False) I1 q1
  rw [hs] at hA ⊢
  refine Calls.callWith_builtin rfl (Calls.evalArgs_plain ?_)
  refine thn hA fun us s2 ⟨vs, H2, I2, r2, q2⟩ => ?_
  match vs, r2, q2 with
  | [y], .cons (b := uy) ry .nil, q2 =>
    obtain ⟨j, z, ea2, fy, fys, hz, hzj, hno, q⟩ := q2
    obtain ⟨zl, its, rv, ⟨cls, dd, data, sl⟩, ho, hc, ⟨n, hd⟩, _⟩ := (show ObjOk X.prog X.w H2 s2.heap a (.tup ys) from I2.hok a _ ea2)
    simp only at hc hd
    subst hc hd
    obtain ⟨u, hu, ru⟩ := rv.get hz
    obtain ⟨hjl, hje⟩ := List.getElem?_eq_some_iff.mp hu
    have hvl := rv.length
    have hj : j < its.toArray.size := by simpa using hjl
    refine call_meets PySem.F.slot_tuple_index ⟨_, ho, rfl⟩ PySem.F.entry_tuple_index (PySem.F.args_tuple_index_2 _ _)
      (tuple_indexU a its.toArray n dd sl uy (eqU y) j hj ?_ ?_) ⟨ho, fun u' hu' => mem_eqAt ry fy rv fys u' (by simpa using hu'), ?_⟩
    · have e1 : its.toArray[j] = u := by simpa using hje
      rw [e1, eqU_of ru (flat_at fys hz)]
      exact hzj
    · intro m hm hmj
      have hmy : m < ys.length := by
        have : m < its.length := by simpa using hm
        omega
      have hy' : ys[m]? = some ys[m] := List.getElem?_eq_getElem hmy
      obtain ⟨u2, hu2, ru2⟩ := rv.get hy'
      obtain ⟨_, hme⟩ := List.getElem?_eq_some_iff.mp hu2
      have e1 : its.toArray[m] = u2 := by simpa using hme
      rw [e1, eqU_of ru2 (flat_at fys hy')]
      exact hno m _ hmj hy'
    · exact ⟨.int (j : Nat), H2, I2.tok _, ⟨_, rfl⟩, q⟩
/-- a table of the module's: whole numbers at whole numbers -/
structure Tab (P : Program) (w : World) (K : PySem.W.Frag) (d : Addr) (f : Nat → Option Nat) : Prop where
  ex : ∃ vs : List (Key × Value), (∀ h : Heap, K.In h → h.DictOf (mixKind P w) d vs) ∧ ∀ i n : Nat, f i = some n → ∃ t, valueAt vs (Sum.inl (i : Int)) = some (.int (n : Int) t)
def tTab (P : Program) (w : World) (K : PySem.W.Frag) (d : Addr) (f : Nat → Option Nat) (ty : TE) : TE := fun σ H Q => ty σ H fun y H1 => ∃ i n : Nat, y = .int (i : Int) ∧ f i = some n ∧ Q (.int (n : Int)) H1
theorem pe_tab {x : Str} {i : Expr} {p pos : Pos} {ty : TE} {d : Addr} {f : Nat → Option Nat} (T : Tab X.prog X.w X.K d f) (hg : Gl X x) (hm : X.mg x = some (.ref d)) (hi : PE X i ty) (hs : NoSl i) (hd : (x == ("__debug__" : Str)) = false := by decide) :
    PE X (.Subscript (.Name x p) i pos) (tTab X.prog X.w X.K d f ty) := by
  intro pins s σ H Q I h
  obtain ⟨vs, h1, h2⟩ := T.ex
  refine subD_of PySem.F.slot_dict_getitem.lookup hs (thn (pe_glob (v := .ref d) hg hm rfl hd pins s σ H (fun v H' => v = .ref d ∧ H' = H) I ⟨rfl, rfl⟩) fun u s1 ⟨x, H1, I1, rx, e1, e2⟩ => ?_)
  subst e1 e2
  obtain rfl : u = Value.ref d := rx
  refine thn (hi pins s1 σ _ _ I1 h) fun iv s2 ⟨y, H2, I2, ry, k, n, ey, ef, q⟩ => ?_
  subst ey
  obtain ⟨t, ht⟩ := h2 k n ef
  have dd := h1 _ I2.kIn
  exact ⟨dd.typeIs, wpAny_getItem_of (kV_is (k := Sum.inl (k : Int)) ry) dd.mapOf ht ⟨.int (n : Int), H2, I2.tok _, ⟨t, rfl⟩, q⟩⟩
end
end U

end
section
set_option Elab.async false
set_option linter.all false
set_option maxRecDepth 100000
set_option maxHeartbeats 4000000
/-! The functions of averages and draws. -/
namespace U
open PySem PySem.Spec PyProof.Rows L2
open UM (Ways wput wdraw1 wdraws wblind wblinds wsum ukeys rowsOf rowOf setRule setAt GoodR GoodS tpre)
/-! ### the text by places -/
def top (i : Nat) : Stmt := PySem.Challenge.pw_urndraws_s01_answers.main.body.getD i (.Pass ⟨0, 0, 0, 0⟩)
abbrev sGcd : Stmt := top 1
abbrev sTerms : Stmt := top 2
abbrev sAvg : Stmt := top 3
abbrev sLower : Stmt := top 5
abbrev sWays : Stmt := top 6
abbrev sDrawn : Stmt := top 7
abbrev sAdd : Stmt := top 8
abbrev sOne : Stmt := top 9
abbrev sDraws : Stmt := top 10
abbrev sLast : Stmt := top 11
abbrev sCount : Stmt := top 12
abbrev sDoes : Stmt := top 14
abbrev sFirst : Stmt := top 15
abbrev sMany : Stmt := top 16
abbrev sNum : Stmt := top 17
abbrev sSures : Stmt := top 18
/-! ### what is not hidden by a name of the module -/
structure Bt (mg : Str → Option Value) : Prop where
  range : mg "range" = none
  len : mg "len" = none
  min : mg "min" = none
  sum : mg "sum" = none
  sorted : mg "sorted" = none
  list : mg "list" = none
  tuple : mg "tuple" = none
/-- a function of the module's, with its promise -/
structure Has (P : Program) (w : World) (K : PySem.W.Frag) (mg : Str → Option Value) (base : Heap) (name : Str) (k : Nat) (ps : List Str) (sp : Sp) : Prop where
  ex : ∃ f fd, mg name = some (.ref f) ∧ PySem.W.keepIn K (.ref f) = true ∧ Binds K fd ps [] ∧ FnOk P w K mg base CX0 k f fd ps sp
theorem Has.mono {P : Program} {w : World} {K : PySem.W.Frag} {mg : Str → Option Value} {base : Heap} {name : Str} {j k : Nat} {ps : List Str} {sp : Sp} (F : Has P w K mg base name j ps sp) (h : j ≤ k) : Has P w K mg base name k ps sp :=
  let ⟨f, fd, h1, h2, h3, h4⟩ := F.ex; ⟨f, fd, h1, h2, h3, h4.mono h⟩
theorem pe_has {X : Cx} {name : Str} {k : Nat} {ps : List Str} {sp : Sp} {p pos : Pos} {e : Expr} {es : List Expr} {t : TA} (F : Has X.prog X.w X.K X.mg X.base name k ps sp) (hr : Room k X.A) (hg : Gl X name) (ha : PA X (e :: es) t)
    (hdb : (name == ("__debug__" : Str)) = false := by decide) (he : starEach (e :: es) X.env = (false, eval e X.env) :: starEach es X.env := by rfl) (hpl : (backTo pos (starEach es X.env)).any (·.1) = false := by rfl) :
    PE X (.Call (.Name name p) (e :: es) [] pos) (tCall sp [] E0 t) := by
  obtain ⟨f, fd, h1, h2, h3, h4⟩ := F.ex
  exact pe_call h4 hr hg h1 h2 h3 .nil pass0 ha hdb he hpl
/-! ### the promises -/
def spGcd : Sp := fun vs H Q _ => ∃ a b : Nat, vs = [.int (a : Int), .int (b : Int)] ∧ Q (.int (Nat.gcd a b : Nat)) H
def fv (f : Uw82.Frac) : List V := [.int (f.u : Nat), .int (f.l : Nat)]
def spTerms : Sp := fun vs H Q _ => ∃ a b : Nat, vs = [.int (a : Int), .int (b : Int)] ∧ 0 < b ∧ b < 1073741824 ∧ ∀ p, H p = none → Q (.ref p) (upd H p (.lst (fv (Uw82.frac a b))))
def spAvg : Sp := fun vs H Q _ => ∃ (d : Addr) (l : Ways) (c : Nat), vs = [.ref d, .int (c : Int)] ∧ H d = some (.dT (wd l)) ∧ (ukeys l).Nodup ∧ (∀ t ∈ ukeys l, c < t.length ∧ t.getD c 0 ≤ 8) ∧ 0 < wsum l ∧ wsum l < 1073741824 ∧ l.length < sizeLine ∧
  ∀ (H' : Hp) (p : Addr), Same H H' → H p = none → H' p = some (.lst (fv (Uw82.frac (UM.wav c l) (wsum l)))) → Q (.ref p) H'
def spLower : Sp := fun vs H Q _ => ∃ k : Nat, vs = [.int (k : Int)] ∧ 2 ≤ k ∧ k ≤ 4 ∧ ∀ (H' : Hp) (p : Addr) (as : List Addr), Same H H' → H p = none → (∀ a ∈ as, H a = none) → RowsA H' p as (rowsOf (Uw82.lowest k)) → Q (.ref p) H'
section
variable {P : Program} {w : World} {K : PySem.W.Frag} {mg : Str → Option Value} {base : Heap}
/-! ### common_divisor -/
theorem scGcd : FnScope ["one", "other", "rest"] ["one", "other"] (defScope sGcd) := ⟨rfl, rfl, rfl, by decide +kernel, rfl, by decide +kernel, by decide +kernel⟩
theorem ok_gcd {f : Addr} {fd : FuncData} (F : Fun K "common_divisor" "common_divisor" sGcd f fd) : FnOk P w K mg base CX0 1 f fd ["one", "other"] spGcd := by
  refine F.ok scGcd (fun vs H Q E h => ?_) (fun cdv A outer s H vs Q E hr h => ?_)
  · obtain ⟨a, b, rfl, _⟩ := h
    rfl
  · obtain ⟨a, b, rfl, q⟩ := h
    refine ⟨_, pss_cons (ps_while PassesOwn.never (pt_cmpR op_gt (pv 1) pe_int (nomark _))
        (pss_cons (ps_set (i := 2) scGcd.nd rfl (Or.inl rfl) (pe_op op_mod (pv 0) (pv 1)))
        (pss_cons (ps_set (i := 0) scGcd.nd rfl (Or.inl rfl) (pv 1)) (pss_one (ps_set (i := 1) scGcd.nd rfl (Or.inl rfl) (pv 2))))))
      (pss_one (ps_ret (pv 0))), ?_⟩
    refine ⟨fun m σ H' => H' = H ∧ ∃ (x : Nat) (r : Option V), σ = [some (.int (x : Int)), some (.int (m : Int)), r] ∧ Nat.gcd x m = Nat.gcd a b, ⟨b, rfl, a, none, rfl, rfl⟩, ?_⟩
    rintro m σ H' ⟨rfl, x, r, rfl, hg⟩
    refine ⟨_, rfl, _, _, rfl, rfl, _, rfl, ite2 (fun h => ?_) (fun h => ?_)⟩
    · have hm : 0 < m := by
        have := of_decide_eq_true h
        omega
      refine ⟨fun σ' H1 => H1 = H' ∧ ∃ r' : Option V, σ' = [some (.int (m : Int)), some (.int ((x % m : Nat) : Int)), r'], ?_, ?_⟩
      · rintro σ' H1 ⟨rfl, r', rfl⟩
        refine ⟨x % m, Nat.mod_lt _ hm, rfl, m, r', rfl, ?_⟩
        rw [← hg, Nat.gcd_comm x m, Nat.gcd_rec m x]
        exact Nat.gcd_comm _ _
      · refine ⟨_, rfl, _, rfl, _, _, rfl, rfl, (by show (0 : Int) < (m : Int); omega), _, rfl, _, rfl, rfl, _, rfl⟩
    · have hm : m = 0 := by
        rcases Nat.eq_zero_or_pos m with z | z
        · exact z
        · exact absurd (decide_eq_true (show (0 : Int) < (m : Int) by omega)) h
      subst hm
      refine ⟨_, rfl, ?_⟩
      rw [Nat.gcd_zero_right] at hg
      subst hg
      exact q
/-! ### lowest_terms -/
theorem scTerms : FnScope ["above", "below", "divisor"] ["above", "below"] (defScope sTerms) := ⟨rfl, rfl, rfl, by decide +kernel, rfl, by decide +kernel, by decide +kernel⟩
theorem ok_terms {f : Addr} {fd : FuncData} (F : Fun K "lowest_terms" "lowest_terms" sTerms f fd) (G : Has P w K mg base "common_divisor" 1 ["one", "other"] spGcd) : FnOk P w K mg base CX0 2 f fd ["above", "below"] spTerms := by
  refine F.ok scTerms (fun vs H Q E h => ?_) (fun cdv A outer s H vs Q E hr h => ?_)
  · obtain ⟨a, b, rfl, _⟩ := h
    rfl
  · obtain ⟨a, b, rfl, hb, hb2, q⟩ := h
    have hg : 0 < Nat.gcd a b := Nat.gcd_pos_of_pos_right _ hb
    have hg2 : Nat.gcd a b < 1073741824 := Nat.lt_of_le_of_lt (Nat.gcd_le_right _ hb) hb2
    refine ⟨_, pss_cons (ps_set (i := 2) scTerms.nd rfl (Or.inl rfl) (pe_has G hr rfl (pa_cons (pv 0) (pa_cons (pv 1) pa_nil))))
      (pss_one (ps_ret (pe_lst (pa_cons (pe_op op_fdiv (pv 0) (pv 2)) (pa_cons (pe_op op_fdiv (pv 1) (pv 2)) pa_nil))))), ?_⟩
    refine ⟨_, rfl, _, rfl, a, b, rfl, ?_⟩
    refine ⟨_, rfl, _, rfl, _, _, rfl, rfl, ⟨by omega, by omega⟩, _, rfl, _, rfl, _, _, rfl, rfl, ⟨by omega, by omega⟩, (by show 2 ≤ sizeLine; decide), fun p hp => ?_⟩
    have e := q p hp
    rw [UM.frac_pos hb] at e
    exact e
/-! ### walks over the keys of a dict of tuples -/
theorem lc_keysT {d : Addr} {o : Obj} {kvs : List (List Key × V)} {g : TG} {tt : TT} {te : TE} {vs : List Nat} {σ : L2.St} {H1 : Hp} {D : Addr} {Qd : Hp → Prop} (Pv : Nat → Hp → Prop) (h0 : Pv 0 (upd H1 D (.lst []))) (hl : ∀ i H, Pv i H → H d = some (.frz o (.dT kvs)))
    (hs : ∀ (i : Nat) (k : List Key) (v : V) (q : Addr) (H : Hp), kvs[i]? = some (k, v) → H q = some (.tup (k.map kV)) → Pv i H → g (.ref q) (wipe σ vs) H fun σ2 H2 => wipe σ2 vs = wipe σ vs ∧ tt σ2 H2 fun b H3 =>
      if b = true then te σ2 H3 fun y H4 => ∃ acc, H4 D = some (.lst acc) ∧ acc.length < sizeLine ∧ Pv (i + 1) (upd H4 D (.lst (acc ++ [y]))) else Pv (i + 1) H3) (hd : ∀ H, Pv kvs.length H → Qd H) :
    ∃ W : Nat → Nat → Hp → Prop, (∃ m, W 0 m (upd H1 D (.lst []))) ∧ ∀ i m H, W i m H →
      ((Itkt d o kvs).stop i H ∧ Qd H) ∨ ((Itkt d o kvs).go i H ∧ ∃ Nx : Hp → Prop, (∀ H', Nx H' → ∃ m', m' < m ∧ W (i + 1) m' H') ∧ ∀ x H', (Itkt d o kvs).yld i H x H' → g x (wipe σ vs) H' fun σ2 H2 => wipe σ2 vs = wipe σ vs ∧ tt σ2 H2 fun b H3 =>
        if b = true then te σ2 H3 fun y H4 => ∃ acc, H4 D = some (.lst acc) ∧ acc.length < sizeLine ∧ Nx (upd H4 D (.lst (acc ++ [y]))) else Nx H3) := by
  refine ⟨fun i m H => m = kvs.length - i ∧ i ≤ kvs.length ∧ Pv i H, ⟨kvs.length, by simp, Nat.zero_le _, h0⟩, ?_⟩
  rintro i m H ⟨rfl, hi, p⟩
  by_cases hlt : i < kvs.length
  · refine .inr ⟨⟨hl i H p, hlt⟩, Pv (i + 1), fun H' p' => ⟨kvs.length - (i + 1), by omega, rfl, hlt, p'⟩, fun x H' y => ?_⟩
    obtain ⟨rfl, k, v, q, hkv, rfl, hq⟩ := y
    exact hs i k v q _ hkv hq p
  · have e : i = kvs.length := by omega
    subst e
    exact .inl ⟨⟨hl _ H p, Nat.le_refl _⟩, hd H p⟩
theorem for_keysT {d : Addr} {o : Obj} {kvs : List (List Key × V)} {g : TG} {tb : TS} {D : Ends} {σ : L2.St} {H : Hp} (Pv : Nat → L2.St → Hp → Prop) (h0 : Pv 0 σ H) (hl : ∀ i σ H, Pv i σ H → H d = some (.frz o (.dT kvs)))
    (hs : ∀ (i : Nat) (k : List Key) (v : V) (q : Addr) (σ : L2.St) (H : Hp), kvs[i]? = some (k, v) → H q = some (.tup (k.map kV)) → Pv i σ H → g (.ref q) σ H fun σ2 H2 => tb { D with nx := Pv (i + 1), ct := Pv (i + 1), bk := D.nx } σ2 H2) (hd : ∀ σ H, Pv kvs.length σ H → D.nx σ H) :
    ∃ W : Nat → Nat → L2.St → Hp → Prop, (∃ m, W 0 m σ H) ∧ ∀ i m σ H, W i m σ H →
      ((Itkt d o kvs).stop i H ∧ D.nx σ H) ∨ ((Itkt d o kvs).go i H ∧ ∃ N : L2.St → Hp → Prop, (∀ σ' H', N σ' H' → ∃ m', m' < m ∧ W (i + 1) m' σ' H') ∧ ∀ x H', (Itkt d o kvs).yld i H x H' → g x σ H' fun σ2 H2 => tb { D with nx := N, ct := N, bk := D.nx } σ2 H2) := by
  refine ⟨fun i m σ H => m = kvs.length - i ∧ i ≤ kvs.length ∧ Pv i σ H, ⟨kvs.length, by simp, Nat.zero_le _, h0⟩, ?_⟩
  rintro i m σ H ⟨rfl, hi, p⟩
  by_cases hlt : i < kvs.length
  · refine .inr ⟨⟨hl i σ H p, hlt⟩, Pv (i + 1), fun σ' H' p' => ⟨kvs.length - (i + 1), by omega, rfl, hlt, p'⟩, fun x H' y => ?_⟩
    obtain ⟨rfl, k, v, q, hkv, rfl, hq⟩ := y
    exact hs i k v q σ _ hkv hq p
  · have e : i = kvs.length := by omega
    subst e
    exact .inl ⟨⟨hl _ σ H p, Nat.le_refl _⟩, hd σ H p⟩
theorem bl_sum : bootBuiltins "sum" = some (.builtin "sum") := by decide +kernel
theorem bl_min : bootBuiltins "min" = some (.builtin "min") := by decide +kernel
theorem bl_len : bootBuiltins "len" = some (.builtin "len") := by decide +kernel
theorem bl_sorted : bootBuiltins "sorted" = some (.builtin "sorted") := by decide +kernel
theorem bl_list : bootBuiltins "list" = some (.type "list") := by decide +kernel
theorem bl_tuple : bootBuiltins "tuple" = some (.type "tuple") := by decide +kernel
/-! ### average_of -/
theorem wav_int (c : Nat) (l : Ways) : (l.map fun x => ((x.1.getD c 0 * x.2 : Nat) : Int)).sum = ((UM.wav c l : Nat) : Int) := by
  unfold UM.wav
  induction l with
  | nil => rfl
  | cons a l ih =>
    rw [List.map_cons, List.sum_cons, List.map_cons, List.sum_cons, ih]
    omega
theorem scAvg : FnScope ["urns", "colour", "balls_of_all_ways", "balls"] ["urns", "colour"] (defScope sAvg) := ⟨rfl, rfl, rfl, by decide +kernel, rfl, by decide +kernel, by decide +kernel⟩
theorem ok_avg {f : Addr} {fd : FuncData} (F : Fun K "average_of" "average_of" sAvg f fd) (B : Bt mg) (G : Has P w K mg base "lowest_terms" 2 ["above", "below"] spTerms) : FnOk P w K mg base CX0 3 f fd ["urns", "colour"] spAvg := by
  refine F.ok scAvg (fun vs H Q E h => ?_) (fun cdv A outer s H vs Q E hr h => ?_)
  · obtain ⟨d, l, c, rfl, _⟩ := h
    rfl
  · obtain ⟨d, l, c, rfl, hd, nd, hc, hp, hs, hll, q⟩ := h
    have hu := hu_of hr
    refine ⟨_, pss_cons (ps_set (i := 2) scAvg.nd rfl (Or.inl rfl) (pe_callB (cr_sum rfl) rfl B.sum bl_sum (pa_cons (pe_lock (pe_lc rfl scAvg.nd (pi_keys (pv 0)) (blkOk_by (own := [("balls", 3)]) (by kernel_rfl))
        (fun _ _ _ _ _ => pg_name (i := 3) scAvg.nd rfl (Or.inl rfl)) (fun _ _ _ _ _ => pts_nil)
        (fun _ _ _ _ _ => pe_op op_mul (pe_ix (r := rIxT K) ix_tup (pv 3) (pv 1) (fun _ _ => rfl)) (pe_dget hu (pv 0) (pv 3) (fun _ _ => rfl))))) pa_nil)))
      (pss_one (ps_ret (pe_has G hr rfl (pa_cons (pv 2) (pa_cons (pe_callB (cr_sumV rfl) rfl B.sum bl_sum (pa_cons (pe_vals (pv 0)) pa_nil)) pa_nil))))), ?_⟩
    refine ⟨d, .dT (wd l), hd, trivial, fun od => ⟨_, rfl, d, od, rfl, .inr ⟨wd l, upd_same, fun D hD => ?_⟩⟩⟩
    have nDd : D ≠ d := fun e => by
      rw [e, upd_same] at hD
      cases hD
    have hD0 : H D = none := by rwa [upd_ne nDd] at hD
    refine lc_keysT (d := d) (o := od) (kvs := wd l) (fun i H2 => H2 d = some (.frz od (.dT (wd l))) ∧ H2 D = some (.lst (((l.take i).map fun x => ((x.1.getD c 0 * x.2 : Nat) : Int)).map V.int)) ∧ ∀ b o, b ≠ d → H b = some o → H2 b = some o)
      ⟨?_, upd_same, fun b o hb e => ?_⟩ (fun i H2 h => h.1) ?_ ?_
    · rw [upd_ne nDd.symm, upd_same]
    · rw [upd_ne (ne_of_none e hD0), upd_ne hb]
      exact e
    · rintro i k v q2 H2 hkv hq ⟨h1, h2, h3⟩
      obtain ⟨t, m, hl, rfl, rfl⟩ := wd_at hkv
      have hm : (t, m) ∈ l := List.mem_of_getElem? hl
      obtain ⟨hc1, hc2⟩ := hc t (List.mem_map.mpr ⟨_, hm, rfl⟩)
      rw [kl_iv] at hq
      refine ⟨rfl, _, rfl, _, rfl, q2, _, _, _, rfl, rfl, SqT.of hq, iv_atI hc1, _, rfl, _, rfl, d, .int (m : Int), rfl, .inr ⟨wd l, kl t, q2, .inr ⟨od, h1⟩, rfl, by rw [kl_iv]; exact hq, (wd_val nd hm).symm⟩,
        _, _, rfl, rfl, .inl ⟨by omega, by omega⟩, _, h2, ?_, ?_⟩
      · rw [List.length_map, List.length_map, List.length_take]
        exact Nat.lt_of_le_of_lt (Nat.min_le_right _ _) hll
      · refine ⟨?_, ?_, fun b o hb e => ?_⟩
        · rw [upd_ne nDd.symm]
          exact h1
        · rw [upd_same, take_snoc hl, List.map_append, List.map_append]
          simp
        · rw [upd_ne (ne_of_none e hD0)]
          exact h3 b o hb e
    · rintro H2 ⟨h1, h2, h3⟩
      rw [wd_len, List.take_length] at h2
      refine ⟨h1, D, _, rfl, SqL.of (by rw [upd_ne nDd]; exact h2), ?_⟩
      have s2 : Same H (upd H2 d (.dT (wd l))) := fun b o e => by
        by_cases hb : b = d
        · subst hb
          rw [upd_same, ← e, hd]
        · rw [upd_ne hb]
          exact h3 b o hb e
      refine ⟨_, rfl, _, rfl, d, wd l, rfl, .inl upd_same, fun v hv => ?_⟩
      have ndv : d ≠ v := fun e => by
        rw [← e, upd_same] at hv
        cases hv
      refine ⟨v, d, wd l, _, rfl, upd_same, .inl (by rw [upd_ne ndv, upd_same]), wd_vals l, UM.wav c l, wsum l, ?_, hp, hs, fun p hp2 => ?_⟩
      · rw [wav_int, wsum_int]
        rfl
      · have s3 : Same H (upd (upd H2 d (.dT (wd l))) v (viewH v d)) := Same.upd s2 (.inr hv) _
        exact q _ p (Same.upd s3 (.inr hp2) _) (s3.free hp2) upd_same
/-! ### lower_outcomes -/
def lowM (k : Nat) : List (List Nat) := (List.range k).map fun a => (List.range k).map fun b => min a b
theorem scLower : FnScope ["colours", "outcomes", "a", "b"] ["colours"] (defScope sLower) := ⟨rfl, rfl, rfl, by decide +kernel, rfl, by decide +kernel, by decide +kernel⟩
theorem min_int (i j : Nat) : (if (0 + (j : Int)) < 0 + (i : Int) then 0 + (j : Int) else 0 + (i : Int)) = ((min i j : Nat) : Int) := by
  by_cases h : j < i
  · rw [if_pos (by omega)]; omega
  · rw [if_neg (by omega)]; omega
theorem range_at {α : Type} {k i : Nat} (f : Nat → α) (h : i < k) : ((List.range k).map f)[i]? = some (f i) := by
  rw [List.getElem?_map, List.getElem?_range h]
  rfl
theorem ok_lower {f : Addr} {fd : FuncData} (F : Fun K "lower_outcomes" "lower_outcomes" sLower f fd) (B : Bt mg) : FnOk P w K mg base CX0 1 f fd ["colours"] spLower := by
  refine F.ok scLower (fun vs H Q E h => ?_) (fun cdv A outer s H vs Q E hr h => ?_)
  · obtain ⟨k, rfl, _⟩ := h
    rfl
  · obtain ⟨k, rfl, k2, k4, q⟩ := h
    refine ⟨_, pss_cons (ps_set (i := 1) scLower.nd rfl (Or.inl rfl) (pe_lst pa_nil))
      (pss_cons (ps_for PassesOwn.never rfl (pi_range1 rfl B.range (pa_cons (pv 0) pa_nil)) (pg_name (i := 2) scLower.nd rfl (Or.inr rfl))
        (pss_one (ps_expr (pe_bm PySem.F.plainAttrs_list PySem.F.slot_list_append PySem.F.type_list_append mt_append (pv 1)
          (pa_cons (pe_lc rfl scLower.nd (pi_range1 rfl B.range (pa_cons (pv 0) pa_nil)) (blkOk_by (own := [("b", 3)]) (by kernel_rfl)) (fun _ _ _ _ _ => pg_name (i := 3) scLower.nd rfl (Or.inl rfl)) (fun _ _ _ _ _ => pts_nil)
            (fun _ _ _ _ _ => pe_callB (call_min2 rfl) rfl B.min bl_min (pa_cons (pv 2) (pa_cons (pv 3) pa_nil)))) pa_nil)))))
      (pss_one (ps_ret (pv 1)))), ?_⟩
    refine ⟨Nat.zero_le _, fun po hpo => ?_⟩
    refine ⟨_, rfl, (k : Int), rfl, by omega, by omega, for_range (lo := 0) (n := k) (fun i σ H' => ∃ (va vb : Option V) (as : List Addr), σ = [some (.int (k : Int)), some (.ref po), va, vb] ∧ Same H H' ∧ RowsA H' po as ((lowM k).take i) ∧ ∀ a ∈ as, H a = none)
      ⟨none, none, [], rfl, same_new hpo _, ⟨upd_same, List.nodup_nil, by simp, fun j a h => by simp at h⟩, fun a h => by simp at h⟩ ?_ ?_⟩
    · rintro i σ H' hi ⟨va, vb, as, rfl, s1, R, fr⟩
      have ht : (lowM k)[i]? = some ((List.range k).map fun b => min i b) := range_at _ hi
      refine ⟨_, rfl, .inl ⟨rfl, _, SqL.of R.lst⟩, _, rfl, (k : Int), rfl, by omega, by omega, fun D hD => ?_⟩
      refine lc_range (lo := 0) (n := k) (fun j H2 => H2 D = some (.lst (iv (((List.range k).map fun b => min i b).take j))) ∧ ∀ b o, b ≠ D → H' b = some o → H2 b = some o) ⟨upd_same, fun b o hb e => by rw [upd_ne hb]; exact e⟩ ?_ ?_
      · rintro j H2 hj ⟨h1, h2⟩
        refine ⟨rfl, _, rfl, _, rfl, _, _, rfl, _, h1, ?_, ?_, fun b o hb e => ?_⟩
        · rw [iv_len, List.length_take]
          have := sizeLine_eq
          omega
        · rw [upd_same, min_int, take_snoc (range_at (fun b => min i b) hj)]
          unfold iv
          rw [List.map_append]
          rfl
        · rw [upd_ne hb]
          exact h2 b o hb e
      · rintro H2 ⟨h1, h2⟩
        have nD : ∀ b o, H' b = some o → b ≠ D := fun b o e => ne_of_none e hD
        have s2 : Same H' H2 := fun b o e => h2 b o (nD b o e) e
        have R2 := R.same s2
        rw [List.take_of_length_le (by simp)] at h1
        have hla := R.len
        rw [List.length_take] at hla
        refine ⟨po, _, _, rfl, rfl, R2.lst, ?_, ?_⟩
        · rw [List.length_map]
          have := sizeLine_eq
          omega
        · have npD : po ≠ D := nD _ _ R.lst
          have nda : D ∉ as := fun m => by
            obtain ⟨j, hj⟩ := List.getElem?_of_mem m
            obtain ⟨row, _, e⟩ := R.at_ j D hj
            rw [hD] at e
            cases e
          have npo : ∀ b, H b ≠ none → b ≠ po := fun b h e => h (by rw [e]; exact hpo)
          refine ⟨_, _, as ++ [D], rfl, fun b o e => ?_, ⟨?_, ?_, ?_, fun j a ha => ?_⟩, fun a m => ?_⟩
          · rw [upd_ne (ne_of_none e hpo)]
            exact s2 _ _ (s1 _ _ e)
          · rw [upd_same, List.map_append]
            rfl
          · rw [List.nodup_append]
            refine ⟨R.nd, by simp, fun a ha b hb e => ?_⟩
            rw [List.mem_singleton] at hb
            subst hb e
            exact nda ha
          · rw [List.length_append, R.len, take_snoc ht, List.length_append]
            rfl
          · rw [take_snoc ht]
            by_cases hj : j < as.length
            · rw [List.getElem?_append_left hj] at ha
              obtain ⟨row, g1, g2⟩ := R2.at_ j a ha
              have g3 : j < ((lowM k).take i).length := by rw [← R.len]; exact hj
              refine ⟨row, by rw [List.getElem?_append_left g3]; exact g1, ?_⟩
              rw [upd_ne]
              · exact g2
              · intro e
                subst e
                rw [R2.lst] at g2
                have g4 : as.map V.ref = iv row := HO.lst.inj (Option.some.inj g2)
                have g5 : (as.map V.ref)[j]? = (iv row)[j]? := by rw [g4]
                rw [List.getElem?_map, ha] at g5
                unfold iv at g5
                rw [List.getElem?_map] at g5
                cases z : row[j]? with
                | none => rw [z] at g5; cases g5
                | some y => rw [z] at g5; cases g5
            · have hj2 : j = as.length := by
                have := (List.getElem?_eq_some_iff.mp ha).1
                rw [List.length_append] at this
                simp at this
                omega
              subst hj2
              rw [List.getElem?_append_right (Nat.le_refl _), Nat.sub_self] at ha
              have : D = a := by simpa using ha
              subst this
              refine ⟨(List.range k).map fun b => min i b, ?_, ?_⟩
              · rw [R.len, List.getElem?_append_right (Nat.le_refl _), Nat.sub_self]
                rfl
              · rw [upd_ne npD.symm]
                exact h1
          · rcases List.mem_append.mp m with m | m
            · exact fr a m
            · rw [List.mem_singleton] at m
              subst m
              exact s1.free hD
    · rintro σ H' ⟨va, vb, as, rfl, s1, R, fr⟩
      refine ⟨_, rfl, q H' po as s1 hpo fr ?_⟩
      rw [UM.rows_low k2 k4]
      rw [List.take_of_length_le (by simp [lowM])] at R
      exact R
/-! ### ways_to_draw, drawn -/
/-- balls: a list or a tuple of so many of each colour -/
def Balls (K : PySem.W.Frag) (H : Hp) (p : Addr) (s : List Nat) : Prop := SqL K H p (iv s) ∨ SqT K H p (iv s)
theorem Balls.same {K : PySem.W.Frag} {H H' : Hp} {p : Addr} {s : List Nat} (h : Balls K H p s) (sm : Same H H') : Balls K H' p s := by
  rcases h with h | h
  · exact .inl (sm.seq h)
  · refine .inr ?_
    rcases h with (h | ⟨o, h⟩) | h
    · exact .inl (.inl (sm _ _ h))
    · exact .inl (.inr ⟨o, sm _ _ h⟩)
    · exact .inr h
theorem rd_seq {K : PySem.W.Frag} {H : Hp} {p : Addr} {l : List Nat} {j : Nat} {Q : VK} (h : Balls K H p l) (hj : j < l.length) (q : Q (.int (l.getD j 0 : Nat)) H) : rIx K (.ref p) (.int (j : Int)) H Q := by
  rcases h with h | h
  · exact .inl ⟨p, _, _, _, rfl, rfl, h, iv_atI hj, q⟩
  · exact .inr (.inl ⟨p, _, _, _, rfl, rfl, h, iv_atI hj, q⟩)
def spWays (K : PySem.W.Frag) : Sp := fun vs H Q _ => ∃ (p : Addr) (s : List Nat) (a b : Nat), vs = [.ref p, .int (a : Int), .int (b : Int)] ∧ Balls K H p s ∧ a < s.length ∧ b < s.length ∧ Uw82.total s ≤ 8 ∧ Q (.int (Uw82.pairs s a b : Nat)) H
theorem half_int (n : Nat) : ((n : Int) * ((n : Int) - 1)) / 2 = ((n * (n - 1) / 2 : Nat) : Int) := by
  cases n with
  | zero => rfl
  | succ n =>
    have e : ((n + 1 : Nat) : Int) * (((n + 1 : Nat) : Int) - 1) = (((n + 1) * (n + 1 - 1) : Nat) : Int) := by
      rw [Nat.add_sub_cancel, Int.natCast_mul]
      congr 1
      omega
    rw [e]
    rfl
theorem scWays : FnScope ["balls", "a", "b"] ["balls", "a", "b"] (defScope sWays) := ⟨rfl, rfl, rfl, by decide +kernel, rfl, by decide +kernel, by decide +kernel⟩
theorem ok_ways {f : Addr} {fd : FuncData} (F : Fun K "ways_to_draw" "ways_to_draw" sWays f fd) : FnOk P w K mg base CX0 1 f fd ["balls", "a", "b"] (spWays K) := by
  refine F.ok scWays (fun vs H Q E h => ?_) (fun cdv A outer s H vs Q E hr h => ?_)
  · obtain ⟨p, s, a, b, rfl, _⟩ := h
    rfl
  · obtain ⟨p, s, a, b, rfl, hS, ha, hb, h8, q⟩ := h
    have ba := UM.getD_le_total s a
    have bb := UM.getD_le_total s b
    refine ⟨_, pss_cons (ps_if (pt_cmpR op_eq (pv 1) (pv 2) (nomark _))
        (pss_one (ps_ret (pe_op op_fdiv (pe_op op_mul (pe_ix ix_seq (pv 0) (pv 1) (fun _ _ => rfl)) (pe_op op_sub (pe_ix ix_seq (pv 0) (pv 1) (fun _ _ => rfl)) pe_int)) pe_int))) pss_nil)
      (pss_one (ps_ret (pe_op op_mul (pe_ix ix_seq (pv 0) (pv 1) (fun _ _ => rfl)) (pe_ix ix_seq (pv 0) (pv 2) (fun _ _ => rfl))))), ?_⟩
    unfold Uw82.pairs at q
    refine ⟨_, rfl, _, rfl, rfl, _, rfl, ite2 (fun h => ?_) (fun h => ?_)⟩
    · have e : a = b := by
        have e2 := V.int.inj (of_decide_eq_true h)
        omega
      rw [if_pos e] at q
      refine ⟨_, rfl, _, rfl, rd_seq hS ha ⟨_, rfl, _, rfl, rd_seq hS ha ⟨_, _, rfl, rfl, _, _, rfl, rfl, .inl ⟨by omega, by omega⟩, _, _, rfl, rfl, ⟨by decide, by decide⟩, ?_⟩⟩⟩
      show Q (.int (((s.getD a 0 : Nat) : Int) * (((s.getD a 0 : Nat) : Int) - 1) / 2)) H
      rw [half_int]
      exact q
    · have e : ¬ a = b := fun e => h (decide_eq_true (by rw [e]))
      rw [if_neg e] at q
      refine ⟨_, rfl, _, rfl, rd_seq hS ha ⟨_, rfl, _, rfl, rd_seq hS hb ⟨_, _, rfl, rfl, .inl ⟨by omega, by omega⟩, ?_⟩⟩⟩
      show Q (.int (((s.getD a 0 : Nat) : Int) * ((s.getD b 0 : Nat) : Int))) H
      rw [← Int.natCast_mul]
      exact q
theorem iv_less {l : List Nat} {a : Nat} (h : 1 ≤ l.getD a 0) : (iv l).set a (.int ((l.getD a 0 : Nat) - 1 : Int)) = iv (Uw82.less l a) := by
  unfold Uw82.less
  rw [← iv_set]
  have e : ((l.getD a 0 : Nat) : Int) - 1 = ((l.getD a 0 - 1 : Nat) : Int) := by omega
  rw [e]
theorem iv_more (l : List Nat) (a : Nat) : (iv l).set a (.int ((l.getD a 0 : Nat) + 1 : Int)) = iv (Uw82.more l a) := by
  unfold Uw82.more
  rw [← iv_set]
  rfl
def spDrawn (K : PySem.W.Frag) : Sp := fun vs H Q _ => ∃ (po p : Addr) (as : List Addr) (r : Uw82.Rule) (s : List Nat) (a b : Nat), vs = [.ref po, .ref p, .int (a : Int), .int (b : Int)] ∧ GoodR r ∧ RowsA H po as (rowsOf r) ∧ Balls K H p s ∧ s.length = r.k ∧ a < r.k ∧ b < r.k ∧
  Uw82.areThere s a b = true ∧ ∀ l, H l = none → Q (.ref l) (upd H l (.lst (iv (Uw82.drawn r s a b))))
theorem scDrawn : FnScope ["outcomes", "balls", "a", "b", "after", "came"] ["outcomes", "balls", "a", "b"] (defScope sDrawn) := ⟨rfl, rfl, rfl, by decide +kernel, rfl, by decide +kernel, by decide +kernel⟩
theorem ok_drawn {f : Addr} {fd : FuncData} (F : Fun K "drawn" "drawn" sDrawn f fd) (B : Bt mg) : FnOk P w K mg base CX0 1 f fd ["outcomes", "balls", "a", "b"] (spDrawn K) := by
  refine F.ok scDrawn (fun vs H Q E h => ?_) (fun cdv A outer s H vs Q E hr h => ?_)
  · obtain ⟨po, p, as, r, s, a, b, rfl, _⟩ := h
    rfl
  · obtain ⟨po, p, as, r, s, a, b, rfl, G, R, hS, hl, ha, hb, ht, q⟩ := h
    obtain ⟨t1, t2, t3⟩ := (UM.there_iff (by rw [hl]; exact ha) (by rw [hl]; exact hb)).mp ht
    have e4 : (Uw82.less s a).getD b 0 = if a = b then s.getD a 0 - 1 else s.getD b 0 := by
      unfold Uw82.less
      rw [UM.getD_set _ _ _ _ (by rw [hl]; exact ha)]
    have t4 : 1 ≤ (Uw82.less s a).getD b 0 := by
      rw [e4]
      split
      · rename_i e
        have := t3 e
        omega
      · exact t2
    refine ⟨_, pss_cons (ps_set (i := 4) scDrawn.nd rfl (Or.inl rfl) (pe_callTy call_list_of rfl B.list bl_list (pa_cons (pv 1) pa_nil)))
      (pss_cons (ps_asg (pe_op op_sub (pe_ix ix_list (pv 4) (pv 2) (fun _ _ => rfl)) pe_int) (pg_sub (pv 4) (pv 2) set_list))
      (pss_cons (ps_asg (pe_op op_sub (pe_ix ix_list (pv 4) (pv 3) (fun _ _ => rfl)) pe_int) (pg_sub (pv 4) (pv 3) set_list))
      (pss_cons (ps_set (i := 5) scDrawn.nd rfl (Or.inl rfl) (pe_ix ix_list (pe_ix ix_list (pv 0) (pv 2) (fun _ _ => rfl)) (pv 3) (fun _ _ => rfl)))
      (pss_cons (ps_asg (pe_op op_add (pe_ix ix_list (pv 4) (pv 5) (fun _ _ => rfl)) pe_int) (pg_sub (pv 4) (pv 5) set_list))
      (pss_one (ps_ret (pv 4))))))), ?_⟩
    refine ⟨_, rfl, p, _, rfl, hS, fun l hn => ?_⟩
    have sm : ∀ (xs : List V), Same H (upd H l (.lst xs)) := fun xs => same_new hn _
    have la : a < s.length := by rw [hl]; exact ha
    have lb : b < (Uw82.less s a).length := by rw [UM.less_len, hl]; exact hb
    refine ⟨_, rfl, _, rfl, l, _, _, _, rfl, rfl, SqL.of upd_same, iv_atI la, _, _, rfl, rfl, _, rfl, _, rfl, l, _, _, a, rfl, rfl, upd_same, ixN_nat (by rw [iv_len]; exact la), ?_⟩
    rw [iv_less t1, upd_upd]
    refine ⟨_, rfl, _, rfl, l, _, _, _, rfl, rfl, SqL.of upd_same, iv_atI lb, _, _, rfl, rfl, _, rfl, _, rfl, l, _, _, b, rfl, rfl, upd_same, ixN_nat (by rw [iv_len]; exact lb), ?_⟩
    rw [iv_less t4, upd_upd]
    have R2 := R.same (sm (iv (Uw82.less (Uw82.less s a) b)))
    obtain ⟨ra, g1, g2⟩ := R2.get (UM.rows_at ha)
    have g3 : b < (rowOf r a).length := by rw [UM.row_len]; exact hb
    have g4 : (rowOf r a).getD b 0 = Uw82.comesOf r a b := by
      rw [List.getD_eq_getElem?_getD, UM.row_at hb]
      rfl
    have g5 := G.lt ha hb
    have lc : Uw82.comesOf r a b < (Uw82.less (Uw82.less s a) b).length := by rw [UM.less_len, UM.less_len, hl]; exact g5
    refine ⟨_, rfl, _, rfl, po, _, _, _, rfl, rfl, SqL.of R2.lst, R2.ref g1, _, rfl, ra, _, _, _, rfl, rfl, SqL.of g2, iv_atI g3, ?_⟩
    rw [g4]
    refine ⟨_, rfl, _, rfl, l, _, _, _, rfl, rfl, SqL.of upd_same, iv_atI lc, _, _, rfl, rfl, _, rfl, _, rfl, l, _, _, Uw82.comesOf r a b, rfl, rfl, upd_same, ixN_nat (by rw [iv_len]; exact lc), ?_⟩
    rw [iv_more, upd_upd]
    exact ⟨_, rfl, q l hn⟩
end
end U

end
section
set_option Elab.async false
set_option linter.all false
set_option maxRecDepth 100000
set_option maxHeartbeats 4000000
/-! Draws, and what they lead to. -/
namespace U
open PySem PySem.Spec PyProof.Rows L2
open UM (Ways wput wdraw1 wdraws wblind wblinds wsum ukeys rowsOf rowOf setRule setAt GoodR GoodS tpre)
/-! ### folds -/
theorem fold_nodup (r : Uw82.Rule) (s : List Nat) (w : Nat) (l : List (Nat × Nat)) {m : Ways} (h : (ukeys m).Nodup) : (ukeys (l.foldl (wdraw1 r s w) m)).Nodup := by
  rw [UM.foldl_hits]
  exact UM.nodup_puts h
theorem fold_len (r : Uw82.Rule) (s : List Nat) (w : Nat) : ∀ (l : List (Nat × Nat)) (m : Ways), (l.foldl (wdraw1 r s w) m).length ≤ m.length + l.length
  | [], m => Nat.le_refl _
  | y :: l, m => by
    have h1 := fold_len r s w l (wdraw1 r s w m y)
    have h2 : (wdraw1 r s w m y).length ≤ m.length + 1 := by
      unfold wdraw1
      split
      · omega
      · exact UM.len_put _ _ _
    rw [List.foldl_cons, List.length_cons]
    omega
theorem pairs_small {s : List Nat} (h : Uw82.total s ≤ 8) (a b : Nat) : Uw82.pairs s a b ≤ 64 := by
  have ha := UM.getD_le_total s a
  have hb := UM.getD_le_total s b
  unfold Uw82.pairs
  split
  · have h1 : s.getD a 0 * (s.getD a 0 - 1) ≤ 8 * 8 := Nat.mul_le_mul (by omega) (by omega)
    omega
  · have h1 : s.getD a 0 * s.getD b 0 ≤ 8 * 8 := Nat.mul_le_mul (by omega) (by omega)
    omega
theorem wdraw1_pos {r : Uw82.Rule} {s : List Nat} {w a b : Nat} {m : Ways} (h : ¬ Uw82.pairs s a b = 0) : wdraw1 r s w m (a, b) = wput m (Uw82.drawn r s a b) (w * Uw82.pairs s a b) := by
  unfold wdraw1
  rw [if_neg h]
theorem wdraw1_zero {r : Uw82.Rule} {s : List Nat} {w a b : Nat} {m : Ways} (h : Uw82.pairs s a b = 0) : wdraw1 r s w m (a, b) = m := by
  unfold wdraw1
  rw [if_pos h]
/-- all but d is as it was -/
def But (d : Addr) (H H' : Hp) : Prop := ∀ b o, b ≠ d → H b = some o → H' b = some o
theorem But.refl (d : Addr) (H : Hp) : But d H H := fun _ _ _ e => e
theorem But.same {d : Addr} {H H1 H2 : Hp} (h : But d H H1) (s : Same H1 H2) : But d H H2 := fun b o hb e => s b o (h b o hb e)
theorem But.upd {d : Addr} {H H1 : Hp} (h : But d H H1) (o : HO) : But d H (L2.upd H1 d o) := fun b u hb e => by
  rw [upd_ne hb]
  exact h b u hb e
theorem But.rows {d : Addr} {H H1 : Hp} {p : Addr} {as : List Addr} {M : List (List Nat)} {kvs : List (List Key × V)} (h : But d H H1) (hd : H d = some (.dT kvs)) (R : RowsA H p as M) : RowsA H1 p as M :=
  R.keep fun b o hb e => h b o (by
    rcases hb with rfl | hb
    · exact ne_of R.lst hd (by intro z; cases z)
    · obtain ⟨j, hj⟩ := List.getElem?_of_mem hb
      obtain ⟨row, _, q⟩ := R.at_ j b hj
      exact ne_of q hd (by intro z; cases z)) e
def spAdd (K : PySem.W.Frag) : Sp := fun vs H Q _ => ∃ (po t d : Addr) (as : List Addr) (r : Uw82.Rule) (s : List Nat) (w : Nat) (m : Ways), vs = [.ref po, .ref t, .int (w : Int), .ref d] ∧ GoodR r ∧ RowsA H po as (rowsOf r) ∧ H t = some (.tup (iv s)) ∧ s.length = r.k ∧ Uw82.total s ≤ 8 ∧
  H d = some (.dT (wd m)) ∧ (ukeys m).Nodup ∧ m.length + 20 < sizeLine ∧ ∀ H' : Hp, But d H H' → H' d = some (.dT (wd (wdraws r s w m))) → Q .non H'
section
variable {P : Program} {w : World} {K : PySem.W.Frag} {mg : Str → Option Value} {base : Heap}
theorem scAdd : FnScope ["outcomes", "balls", "ways", "found", "a", "b", "choices", "after"] ["outcomes", "balls", "ways", "found"] (defScope sAdd) := ⟨rfl, rfl, rfl, by decide +kernel, rfl, by decide +kernel, by decide +kernel⟩
theorem ok_add {f : Addr} {fd : FuncData} (F : Fun K "add_draws" "add_draws" sAdd f fd) (B : Bt mg) (GW : Has P w K mg base "ways_to_draw" 1 ["balls", "a", "b"] (spWays K)) (GD : Has P w K mg base "drawn" 1 ["outcomes", "balls", "a", "b"] (spDrawn K)) :
    FnOk P w K mg base CX0 2 f fd ["outcomes", "balls", "ways", "found"] (spAdd K) := by
  refine F.ok scAdd (fun vs H Q E h => ?_) (fun cdv A outer s0 H vs Q E hr h => ?_)
  · obtain ⟨po, t, d, as, r, s, w, m, rfl, _⟩ := h
    rfl
  · obtain ⟨po, t, d, as, r, s, w, m, rfl, G, R, ht, hl, h8, hd, nd, hm, q⟩ := h
    have hu := hu_of hr
    have k4 := G.k4
    have hsl := sizeLine_eq
    have ntd : t ≠ d := ne_of ht hd (by intro z; cases z)
    refine ⟨_, pss_one (ps_for PassesOwn.never rfl (pi_range1 rfl B.range (pa_cons (pe_callB call_len_seq rfl B.len bl_len (pa_cons (pv 1) pa_nil)) pa_nil)) (pg_name (i := 4) scAdd.nd rfl (Or.inl rfl))
      (pss_one (ps_for PassesOwn.never rfl (pi_range2 rfl B.range (pa_cons (pv 4) (pa_cons (pe_callB call_len_seq rfl B.len bl_len (pa_cons (pv 1) pa_nil)) pa_nil))) (pg_name (i := 5) scAdd.nd rfl (Or.inl rfl))
        (pss_cons (ps_set (i := 6) scAdd.nd rfl (Or.inl rfl) (pe_has GW hr rfl (pa_cons (pv 1) (pa_cons (pv 4) (pa_cons (pv 5) pa_nil)))))
        (pss_one (ps_if (pt_cmpR op_gt (pv 6) pe_int (nomark _))
          (pss_cons (ps_set (i := 7) scAdd.nd rfl (Or.inl rfl) (pe_callTy call_tuple_of rfl B.tuple bl_tuple (pa_cons (pe_has GD hr rfl (pa_cons (pv 0) (pa_cons (pv 1) (pa_cons (pv 4) (pa_cons (pv 5) pa_nil))))) pa_nil)))
          (pss_one (ps_dput hu (pv 3) (pv 7) (pe_op op_add (pe_dget2 hu (pv 3) (pv 7) pe_int ⟨rfl, rfl, rfl, rfl⟩) (pe_op op_mul (pv 2) (pv 6))) rfl))) pss_nil)))))), ?_⟩
    refine ⟨_, rfl, t, _, rfl, .inr (SqT.of ht), ((iv s).length : Int), rfl, by omega, by rw [iv_len, hl]; omega, ?_⟩
    rw [show ((iv s).length : Int).toNat = r.k by rw [iv_len, hl]; rfl]
    refine for_range (lo := 0) (n := r.k) (fun i σ H' => ∃ va vb vc ve : Option V, σ = [some (.ref po), some (.ref t), some (.int (w : Int)), some (.ref d), va, vb, vc, ve] ∧ But d H H' ∧ H' d = some (.dT (wd ((tpre r.k i 0).foldl (wdraw1 r s w) m))))
      ⟨none, none, none, none, rfl, But.refl d H, hd⟩ ?_ ?_
    · rintro i σ H1 hi ⟨va, vb, vc, ve, rfl, b1, hd1⟩
      have ht1 := b1 _ _ ntd ht
      refine ⟨_, rfl, _, rfl, t, _, rfl, .inr (SqT.of ht1), (0 + (i : Int)), ((iv s).length : Int), rfl, ⟨by omega, by omega, by omega, by rw [iv_len, hl]; omega⟩, ?_⟩
      rw [show (((iv s).length : Int) - (0 + (i : Int))).toNat = r.k - i by rw [iv_len, hl]; omega]
      refine for_range (lo := 0 + (i : Int)) (n := r.k - i) (fun j σ H' => ∃ vb vc ve : Option V, σ = [some (.ref po), some (.ref t), some (.int (w : Int)), some (.ref d), some (.int (i : Int)), vb, vc, ve] ∧ But d H H' ∧ H' d = some (.dT (wd ((tpre r.k i j).foldl (wdraw1 r s w) m))))
        ⟨vb, vc, ve, by rw [Int.zero_add]; rfl, b1, hd1⟩ ?_ ?_
      · rintro j σ H2 hj ⟨vb, vc, ve, rfl, b2, hd2⟩
        have ht2 := b2 _ _ ntd ht
        have R2 := b2.rows hd R
        have hij : i + j < r.k := by omega
        have e1 : (0 + (i : Int) + (j : Int)) = ((i + j : Nat) : Int) := by omega
        have nd2 := fold_nodup r s w (tpre r.k i j) nd
        have len2 := fold_len r s w (tpre r.k i j) m
        have len3 := UM.pre_len (k := r.k) (i := i) (j := j) k4 hi (by omega)
        have e0 : (tpre r.k i (j + 1)).foldl (wdraw1 r s w) m = wdraw1 r s w ((tpre r.k i j).foldl (wdraw1 r s w) m) (i, i + j) := by
          rw [UM.pre_snoc, List.foldl_append]
          rfl
        refine ⟨_, rfl, _, rfl, _, rfl, t, s, i, i + j, by rw [e1]; rfl, .inr (SqT.of ht2), by rw [hl]; exact hi, by rw [hl]; exact hij, h8, ?_⟩
        refine ⟨_, rfl, _, _, rfl, rfl, _, rfl, ite2 (fun h => ?_) (fun h => ?_)⟩
        · have hp : ¬ Uw82.pairs s i (i + j) = 0 := by
            have := of_decide_eq_true h
            omega
          have hth : Uw82.areThere s i (i + j) = true := by
            cases z : Uw82.areThere s i (i + j) with
            | true => rfl
            | false => exact absurd ((UM.pairs_pos (by rw [hl]; exact hi) (by rw [hl]; exact hij)).mpr z) hp
          refine ⟨_, rfl, _, rfl, _, rfl, _, rfl, po, t, as, r, s, i, i + j, by rw [e1]; rfl, G, R2, .inr (SqT.of ht2), hl, hi, hij, hth, fun l hn => ?_⟩
          refine ⟨l, _, rfl, .inl ⟨SqL.of upd_same, fun b hb => ?_⟩⟩
          have s3 : Same H2 (upd H2 l (.lst (iv (Uw82.drawn r s i (i + j))))) := same_new hn _
          have s4 : Same H2 (upd (upd H2 l (.lst (iv (Uw82.drawn r s i (i + j))))) b (.tup (iv (Uw82.drawn r s i (i + j))))) := Same.upd s3 (.inr hb) _
          have hd4 := s4 _ _ hd2
          have hb4 : (upd (upd H2 l (.lst (iv (Uw82.drawn r s i (i + j))))) b (.tup (iv (Uw82.drawn r s i (i + j))))) b = some (.tup ((kl (Uw82.drawn r s i (i + j))).map kV)) := by
            rw [upd_same, kl_iv]
          have hpairs : (Uw82.pairs s i (i + j) : Int) < 2 ^ 64 := by
            have := pairs_small h8 i (i + j)
            omega
          refine ⟨_, rfl, d, rfl, .inr ⟨_, .inl hd4⟩, _, rfl, _, DGet.t hd4 hb4, _, rfl, _, rfl, _, _, rfl, rfl, .inr ⟨by omega, hpairs⟩, ?_⟩
          rw [wd_get]
          refine ⟨_, _, rfl, rfl, _, rfl, _, rfl, d, _, rfl, DPut.t hd4 hb4 (by rw [wd_len]; omega), ?_⟩
          refine ⟨_, _, _, rfl, But.upd (b2.same s4) _, ?_⟩
          rw [upd_same, e0, wdraw1_pos hp, ← wd_put nd2, Int.natCast_mul]
        · have hp : Uw82.pairs s i (i + j) = 0 := by
            rcases Nat.eq_zero_or_pos (Uw82.pairs s i (i + j)) with z | z
            · exact z
            · exact absurd (decide_eq_true (show (0 : Int) < (Uw82.pairs s i (i + j) : Int) by omega)) h
          refine ⟨_, _, _, rfl, b2, ?_⟩
          rw [e0, wdraw1_zero hp]
          exact hd2
      · rintro σ H2 ⟨vb, vc, ve, rfl, b2, hd2⟩
        refine ⟨_, vb, vc, ve, rfl, b2, ?_⟩
        rw [← UM.pre_next]
        exact hd2
    · rintro σ H1 ⟨va, vb, vc, ve, rfl, b1, hd1⟩
      rw [UM.pre_all G.k2 G.k4] at hd1
      exact q H1 b1 hd1
/-! ### after_one_draw -/
def spOne (K : PySem.W.Frag) : Sp := fun vs H Q _ => ∃ (po d : Addr) (as : List Addr) (r : Uw82.Rule) (l : Ways), vs = [.ref po, .ref d] ∧ GoodR r ∧ RowsA H po as (rowsOf r) ∧ H d = some (.dT (wd l)) ∧ (ukeys l).Nodup ∧ (∀ t ∈ ukeys l, t.length = r.k ∧ Uw82.total t ≤ 8) ∧ l.length ≤ 1000000 ∧
  ∀ (H' : Hp) (p : Addr), Same H H' → H p = none → H' p = some (.dT (wd (wblind r l))) → Q (.ref p) H'
theorem blind_snoc {r : Uw82.Rule} {l : Ways} {i : Nat} {t : List Nat} {m : Nat} (h : l[i]? = some (t, m)) : wblind r (l.take (i + 1)) = wdraws r t m (wblind r (l.take i)) := by
  unfold wblind
  rw [take_snoc h, List.foldl_append]
  rfl
theorem blind_nodup (r : Uw82.Rule) (l : Ways) : (ukeys (wblind r l)).Nodup := by
  rw [UM.wblind_eq]
  exact UM.nodup_puts (by simp [ukeys])
theorem scOne : FnScope ["outcomes", "urns", "found", "balls"] ["outcomes", "urns"] (defScope sOne) := ⟨rfl, rfl, rfl, by decide +kernel, rfl, by decide +kernel, by decide +kernel⟩
theorem ok_one {f : Addr} {fd : FuncData} (F : Fun K "after_one_draw" "after_one_draw" sOne f fd) (GA : Has P w K mg base "add_draws" 2 ["outcomes", "balls", "ways", "found"] (spAdd K)) : FnOk P w K mg base CX0 3 f fd ["outcomes", "urns"] (spOne K) := by
  refine F.ok scOne (fun vs H Q E h => ?_) (fun cdv A outer s0 H vs Q E hr h => ?_)
  · obtain ⟨po, d, as, r, l, rfl, _⟩ := h
    rfl
  · obtain ⟨po, d, as, r, l, rfl, G, R, hd, nd, hall, hlen, q⟩ := h
    have hu := hu_of hr
    have hsl := sizeLine_eq
    refine ⟨_, pss_cons (ps_set (i := 2) scOne.nd rfl (Or.inl rfl) pe_dnewT)
      (pss_cons (ps_lock (ps_for PassesOwn.never rfl (pi_keys (pv 1)) (pg_name (i := 3) scOne.nd rfl (Or.inl rfl))
        (pss_one (ps_expr (pe_has GA hr rfl (pa_cons (pv 0) (pa_cons (pv 3) (pa_cons (pe_dget hu (pv 1) (pv 3) (fun _ _ => rfl)) (pa_cons (pv 2) pa_nil)))))))))
      (pss_one (ps_ret (pv 2)))), ?_⟩
    intro p hp
    have ndp : d ≠ p := ne_of_none hd hp
    refine ⟨d, .dT (wd l), by rw [upd_ne ndp]; exact hd, trivial, fun od => ⟨_, rfl, d, od, rfl, .inr ⟨wd l, upd_same, ?_⟩⟩⟩
    refine for_keysT (d := d) (o := od) (kvs := wd l) (fun i σ H2 => ∃ v : Option V, σ = [some (.ref po), some (.ref d), some (.ref p), v] ∧ H2 d = some (.frz od (.dT (wd l))) ∧ H2 p = some (.dT (wd (wblind r (l.take i)))) ∧ ∀ b o, b ≠ d → H b = some o → H2 b = some o)
      ⟨none, rfl, upd_same, by rw [upd_ne ndp.symm, upd_same]; rfl, fun b o hb e => by rw [upd_ne hb, upd_ne (ne_of_none e hp)]; exact e⟩ (fun i σ H2 ⟨_, _, h, _⟩ => h) ?_ ?_
    · rintro i k v t σ H2 hkv htk ⟨vx, rfl, h1, h2, h3⟩
      obtain ⟨s, m, hl, rfl, rfl⟩ := wd_at hkv
      have hm : (s, m) ∈ l := List.mem_of_getElem? hl
      obtain ⟨hk, h8⟩ := hall s (List.mem_map.mpr ⟨_, hm, rfl⟩)
      have htk2 := htk
      rw [kl_iv] at htk
      have R2 : RowsA H2 po as (rowsOf r) := R.keep fun b o hb e => h3 b o (by
        rcases hb with rfl | hb
        · exact ne_of R.lst hd (by intro z; cases z)
        · obtain ⟨j, hj⟩ := List.getElem?_of_mem hb
          obtain ⟨row, _, q⟩ := R.at_ j b hj
          exact ne_of q hd (by intro z; cases z)) e
      have hlb := UM.wblind_len G (l.take i)
      rw [List.length_take] at hlb
      refine ⟨_, rfl, _, rfl, _, rfl, _, rfl, d, .int (m : Int), rfl, .inr ⟨wd l, kl s, t, .inr ⟨od, h1⟩, rfl, htk2, (wd_val nd hm).symm⟩, _, rfl,
        po, t, p, as, r, s, m, wblind r (l.take i), rfl, G, R2, htk, hk, h8, h2, blind_nodup r _, by omega, fun H3 b3 h4 => ?_⟩
      refine ⟨_, rfl, b3 _ _ ndp h1, ?_, fun b o hb e => b3 _ _ (ne_of_none e hp) (h3 b o hb e)⟩
      rw [blind_snoc hl]
      exact h4
    · rintro σ H2 ⟨vx, rfl, h1, h2, h3⟩
      rw [wd_len, List.take_length] at h2
      refine ⟨h1, _, rfl, ?_⟩
      refine q _ p (fun b o e => ?_) hp (by rw [upd_ne ndp.symm]; exact h2)
      by_cases hb : b = d
      · subst hb
        rw [upd_same, ← e, hd]
      · rw [upd_ne hb]
        exact h3 b o hb e
/-! ### after_draws -/
def spDraws (K : PySem.W.Frag) : Sp := fun vs H Q _ => ∃ (po pb : Addr) (as : List Addr) (r : Uw82.Rule) (s : List Nat) (n : Nat), vs = [.ref po, .ref pb, .int (n : Int)] ∧ GoodR r ∧ RowsA H po as (rowsOf r) ∧ SqL K H pb (iv s) ∧ s.length = r.k ∧ Uw82.total s ≤ 8 ∧ n < Uw82.total s ∧
  ∀ (H' : Hp) (p : Addr), Same H H' → H p = none → H' p = some (.dT (wd (wblinds r n [(s, 1)]))) → Q (.ref p) H'
theorem blinds_ok {r : Uw82.Rule} {s : List Nat} (G : GoodR r) (hl : s.length = r.k) (h8 : Uw82.total s ≤ 8) {i : Nat} (hi : i < Uw82.total s) :
    (ukeys (wblinds r i [(s, 1)])).Nodup ∧ (∀ t ∈ ukeys (wblinds r i [(s, 1)]), t.length = r.k ∧ Uw82.total t ≤ 8) ∧ (i ≤ 6 → (wblinds r i [(s, 1)]).length ≤ 1000000) := by
  obtain ⟨_, ok⟩ := UM.blinds_start G hl (j := i) hi
  refine ⟨ok.nd, fun t ht => ?_, fun h => ?_⟩
  · obtain ⟨h1, h2⟩ := ok.all t ht
    exact ⟨h1, by omega⟩
  · exact Nat.le_trans (UM.wblinds_len G s i) (Nat.pow_le_pow_right (by decide) h)
theorem scDraws : FnScope ["outcomes", "balls", "draws", "urns", "made"] ["outcomes", "balls", "draws"] (defScope sDraws) := ⟨rfl, rfl, rfl, by decide +kernel, rfl, by decide +kernel, by decide +kernel⟩
theorem ok_draws {f : Addr} {fd : FuncData} (F : Fun K "after_draws" "after_draws" sDraws f fd) (B : Bt mg) (GO : Has P w K mg base "after_one_draw" 3 ["outcomes", "urns"] (spOne K)) : FnOk P w K mg base CX0 4 f fd ["outcomes", "balls", "draws"] (spDraws K) := by
  refine F.ok scDraws (fun vs H Q E h => ?_) (fun cdv A outer s0 H vs Q E hr h => ?_)
  · obtain ⟨po, pb, as, r, s, n, rfl, _⟩ := h
    rfl
  · obtain ⟨po, pb, as, r, s, n, rfl, G, R, hS, hl, h8, hn, q⟩ := h
    have hu := hu_of hr
    refine ⟨_, pss_cons (ps_set (i := 3) scDraws.nd rfl (Or.inl rfl) (pe_disp1 hu (pe_callTy call_tuple_of rfl B.tuple bl_tuple (pa_cons (pv 1) pa_nil)) pe_int))
      (pss_cons (ps_for PassesOwn.never rfl (pi_range1 rfl B.range (pa_cons (pv 2) pa_nil)) (pg_name (i := 4) scDraws.nd rfl (Or.inl rfl))
        (pss_one (ps_set (i := 3) scDraws.nd rfl (Or.inl rfl) (pe_has GO hr rfl (pa_cons (pv 0) (pa_cons (pv 3) pa_nil))))))
      (pss_one (ps_ret (pv 3)))), ?_⟩
    intro p hp
    have s1 : Same H (upd H p (.dT [])) := same_new hp _
    refine ⟨_, rfl, pb, _, rfl, .inl ⟨s1.seq hS, fun b hb => ⟨?_, kl s, b, rfl, by rw [upd_same, kl_iv], ?_⟩⟩⟩
    · rw [upd_ne (fun e => by rw [← e, upd_same] at hb; cases hb), upd_same]
    · have s2 : Same H (upd (upd (upd H p (.dT [])) b (.tup (iv s))) p (.dT [(kl s, .int 1)])) := Same.upd (Same.upd s1 (.inr hb) _) (.inl hp) _
      refine ⟨_, rfl, (n : Int), rfl, by omega, by omega, for_range (lo := 0) (n := n) (fun i σ H' => ∃ (v : Option V) (u : Addr), σ = [some (.ref po), some (.ref pb), some (.int (n : Int)), some (.ref u), v] ∧ Same H H' ∧ H u = none ∧ H' u = some (.dT (wd (wblinds r i [(s, 1)]))))
        ⟨none, p, rfl, s2, hp, by rw [upd_same]; rfl⟩ ?_ ?_⟩
      · rintro i σ H1 hi ⟨v, u, rfl, s3, hu0, hu1⟩
        obtain ⟨g1, g2, g3⟩ := blinds_ok G hl h8 (i := i) (by omega)
        refine ⟨_, rfl, _, rfl, po, u, as, r, _, rfl, G, R.same s3, hu1, g1, g2, g3 (by omega), fun H2 p2 s4 hp2 h2 => ?_⟩
        refine ⟨_, p2, rfl, s3.trans s4, s3.free hp2, ?_⟩
        rw [UM.wblinds_succ]
        exact h2
      · rintro σ H1 ⟨v, u, rfl, s3, hu0, hu1⟩
        exact ⟨_, rfl, q H1 u s3 hu0 hu1⟩
/-! ### last_colours -/
def spLast (K : PySem.W.Frag) : Sp := fun vs H Q _ => ∃ (po pb : Addr) (as : List Addr) (r : Uw82.Rule) (s : List Nat), vs = [.ref po, .ref pb] ∧ GoodR r ∧ RowsA H po as (rowsOf r) ∧ SqL K H pb (iv s) ∧ s.length = r.k ∧ Uw82.total s ≤ 8 ∧ 1 ≤ Uw82.total s ∧
  ∀ (H' : Hp) (p : Addr), Same H H' → H p = none → H' p = some (.lst (iv (Uw82.lasts r s))) → Q (.ref p) H'
theorem iv_one_flat (t : List Nat) : (iv t).all flatV = true := by
  unfold iv
  rw [List.all_map, List.all_eq_true]
  intro x _
  rfl
theorem eq_one {t : List Nat} (h : Uw82.total t = 1) : (iv t)[UM.where1 t]? = some (.int 1) ∧ ∀ (m : Nat) (z : V), m < UM.where1 t → (iv t)[m]? = some z → eqV z (.int 1) = false := by
  obtain ⟨h1, h2⟩ := UM.total_one h
  refine ⟨?_, fun m z hm e => ?_⟩
  · rw [iv_at h1, h2, if_pos rfl]
    rfl
  · rw [iv_at (by omega), h2, if_neg (by omega)] at e
    cases e
    rfl
theorem scLast : FnScope ["outcomes", "balls", "urns", "last"] ["outcomes", "balls"] (defScope sLast) := ⟨rfl, rfl, rfl, by decide +kernel, rfl, by decide +kernel, by decide +kernel⟩
theorem ok_last {f : Addr} {fd : FuncData} (F : Fun K "last_colours" "last_colours" sLast f fd) (B : Bt mg) (GD : Has P w K mg base "after_draws" 4 ["outcomes", "balls", "draws"] (spDraws K)) : FnOk P w K mg base CX0 5 f fd ["outcomes", "balls"] (spLast K) := by
  refine F.ok scLast (fun vs H Q E h => ?_) (fun cdv A outer s0 H vs Q E hr h => ?_)
  · obtain ⟨po, pb, as, r, s, rfl, _⟩ := h
    rfl
  · obtain ⟨po, pb, as, r, s, rfl, G, R, hS, hl, h8, h1, q⟩ := h
    have hu := hu_of hr
    have k4 := G.k4
    refine ⟨_, pss_cons (ps_set (i := 2) scLast.nd rfl (Or.inl rfl) (pe_has GD hr rfl (pa_cons (pv 0) (pa_cons (pv 1) (pa_cons (pe_op op_sub (pe_callB (cr_sum rfl) rfl B.sum bl_sum (pa_cons (pv 1) pa_nil)) pe_int) pa_nil)))))
      (pss_one (ps_ret (pe_callB cr_sorted rfl B.sorted bl_sorted (pa_cons (pe_lock (pe_lc rfl scLast.nd (pi_keys (pv 2)) (blkOk_by (own := [("last", 3)]) (by kernel_rfl))
        (fun _ _ _ _ _ => pg_name (i := 3) scLast.nd rfl (Or.inl rfl)) (fun _ _ _ _ _ => pts_nil) (fun _ _ _ _ _ => pe_indexT (pv 3) pe_int))) pa_nil)))), ?_⟩
    refine ⟨_, rfl, _, rfl, _, rfl, pb, Uw82.ints s, rfl, by rw [← iv_ints]; exact hS, _, _, rfl, rfl, po, pb, as, r, s, Uw82.total s - 1, ?_, G, R, hS, hl, h8, by omega, fun H1 d s1 hd0 hd => ?_⟩
    · have e : (Uw82.ints s).sum - 1 = ((Uw82.total s - 1 : Nat) : Int) := by
        rw [ints_sum]
        omega
      show [V.ref po, V.ref pb, V.int ((Uw82.ints s).sum - 1)] = _
      rw [e]
    · obtain ⟨_, ok⟩ := UM.blinds_start G hl (j := Uw82.total s - 1) (by omega)
      have perm := UM.lasts_perm G hl h1
      have srt := UM.lasts_sorted r s
      have hlen := perm.length_eq
      have hk := UM.lasts_len r s
      generalize wblinds r (Uw82.total s - 1) [(s, 1)] = l at *
      rw [show Uw82.total s - (Uw82.total s - 1) = 1 by omega] at ok
      rw [List.length_map] at hlen
      have hlen2 : l.length ≤ 4 := by
        have : (ukeys l).length = l.length := List.length_map _
        omega
      refine ⟨d, .dT (wd l), hd, trivial, fun od => ⟨_, rfl, d, od, rfl, .inr ⟨wd l, upd_same, fun D hD => ?_⟩⟩⟩
      have nDd : D ≠ d := fun e => by
        rw [e, upd_same] at hD
        cases hD
      have hD0 : H1 D = none := by rwa [upd_ne nDd] at hD
      refine lc_keysT (d := d) (o := od) (kvs := wd l) (fun i H2 => H2 d = some (.frz od (.dT (wd l))) ∧ H2 D = some (.lst ((((l.take i).map fun x => ((UM.where1 x.1 : Nat) : Int))).map V.int)) ∧ ∀ b o, b ≠ d → H1 b = some o → H2 b = some o)
        ⟨?_, upd_same, fun b o hb e => ?_⟩ (fun i H2 h => h.1) ?_ ?_
      · rw [upd_ne nDd.symm, upd_same]
      · rw [upd_ne (ne_of_none e hD0), upd_ne hb]
        exact e
      · rintro i k v t H2 hkv hq ⟨g1, g2, g3⟩
        obtain ⟨u, m, hli, rfl, rfl⟩ := wd_at hkv
        have hm : (u, m) ∈ l := List.mem_of_getElem? hli
        obtain ⟨e1, e2⟩ := eq_one (ok.all u (List.mem_map.mpr ⟨_, hm, rfl⟩)).2
        rw [kl_iv] at hq
        refine ⟨rfl, _, rfl, t, _, rfl, hq, UM.where1 u, _, hq, rfl, iv_one_flat u, e1, rfl, e2, _, g2, ?_, ?_, ?_, fun b o hb e => ?_⟩
        · rw [List.length_map, List.length_map, List.length_take]
          have := sizeLine_eq
          omega
        · rw [upd_ne nDd.symm]
          exact g1
        · rw [upd_same, take_snoc hli, List.map_append, List.map_append]
          rfl
        · rw [upd_ne (ne_of_none e hD0)]
          exact g3 b o hb e
      · rintro H2 ⟨g1, g2, g3⟩
        rw [wd_len, List.take_length] at g2
        have s2 : Same H1 (upd H2 d (.dT (wd l))) := fun b o e => by
          by_cases hb : b = d
          · subst hb
            rw [upd_same, ← e, hd]
          · rw [upd_ne hb]
            exact g3 b o hb e
        refine ⟨g1, D, _, rfl, SqL.of (by rw [upd_ne nDd]; exact g2), by rw [List.length_map]; omega, fun ns' p pm pw hp => ?_⟩
        refine q _ p (Same.upd (s1.trans s2) (.inr hp) _) ((s1.trans s2).free hp) ?_
        rw [upd_same, iv_ints]
        have e1 : (l.map fun x => ((UM.where1 x.1 : Nat) : Int)) = Uw82.ints ((ukeys l).map UM.where1) := by
          unfold Uw82.ints ukeys
          rw [List.map_map, List.map_map]
          rfl
        have e2 : ns'.Perm (Uw82.ints (Uw82.lasts r s)) := pm.trans (by rw [e1]; exact perm.map _)
        have e3 : (Uw82.ints (Uw82.lasts r s)).Pairwise (· ≤ ·) := by
          unfold Uw82.ints
          rw [List.pairwise_map]
          exact srt.imp fun h => by omega
        rw [List.Perm.eq_of_pairwise (le := fun a b => decide (a ≤ b)) (fun a b _ _ h1 h2 => by simp at h1 h2; omega) (pw.imp fun h => by simpa using h) (e3.imp fun h => by simpa using h) e2]
/-! ### count_urns -/
def spCount (K : PySem.W.Frag) : Sp := fun vs H Q _ => ∃ (po pb : Addr) (as : List Addr) (r : Uw82.Rule) (s : List Nat), vs = [.ref po, .ref pb] ∧ GoodR r ∧ RowsA H po as (rowsOf r) ∧ SqL K H pb (iv s) ∧ s.length = r.k ∧ Uw82.total s ≤ 8 ∧
  ∀ H' : Hp, Same H H' → Q (.int (Uw82.comes r s : Nat)) H'
theorem scCount : FnScope ["outcomes", "balls", "urns", "many", "made"] ["outcomes", "balls"] (defScope sCount) := ⟨rfl, rfl, rfl, by decide +kernel, rfl, by decide +kernel, by decide +kernel⟩
theorem ok_count {f : Addr} {fd : FuncData} (F : Fun K "count_urns" "count_urns" sCount f fd) (B : Bt mg) (GO : Has P w K mg base "after_one_draw" 3 ["outcomes", "urns"] (spOne K)) : FnOk P w K mg base CX0 4 f fd ["outcomes", "balls"] (spCount K) := by
  refine F.ok scCount (fun vs H Q E h => ?_) (fun cdv A outer s0 H vs Q E hr h => ?_)
  · obtain ⟨po, pb, as, r, s, rfl, _⟩ := h
    rfl
  · obtain ⟨po, pb, as, r, s, rfl, G, R, hS, hl, h8, q⟩ := h
    have hu := hu_of hr
    refine ⟨_, pss_cons (ps_set (i := 2) scCount.nd rfl (Or.inl rfl) (pe_disp1 hu (pe_callTy call_tuple_of rfl B.tuple bl_tuple (pa_cons (pv 1) pa_nil)) pe_int))
      (pss_cons (ps_set (i := 3) scCount.nd rfl (Or.inl rfl) pe_int)
      (pss_cons (ps_for PassesOwn.never rfl (pi_range1 rfl B.range (pa_cons (pe_op op_sub (pe_callB (cr_sum rfl) rfl B.sum bl_sum (pa_cons (pv 1) pa_nil)) pe_int) pa_nil)) (pg_name (i := 4) scCount.nd rfl (Or.inl rfl))
        (pss_cons (ps_set (i := 2) scCount.nd rfl (Or.inl rfl) (pe_has GO hr rfl (pa_cons (pv 0) (pa_cons (pv 2) pa_nil))))
        (pss_one (ps_set (i := 3) scCount.nd rfl (Or.inl rfl) (pe_op op_add (pv 3) (pe_callB call_lenT rfl B.len bl_len (pa_cons (pv 2) pa_nil)))))))
      (pss_one (ps_ret (pv 3))))), ?_⟩
    intro p hp
    have s1 : Same H (upd H p (.dT [])) := same_new hp _
    refine ⟨_, rfl, pb, _, rfl, .inl ⟨s1.seq hS, fun b hb => ⟨?_, kl s, b, rfl, by rw [upd_same, kl_iv], ?_⟩⟩⟩
    · rw [upd_ne (fun e => by rw [← e, upd_same] at hb; cases hb), upd_same]
    · have s2 : Same H (upd (upd (upd H p (.dT [])) b (.tup (iv s))) p (.dT [(kl s, .int 1)])) := Same.upd (Same.upd s1 (.inr hb) _) (.inl hp) _
      rw [UM.comes_eq G hl] at q
      refine ⟨_, rfl, pb, Uw82.ints s, rfl, by rw [← iv_ints]; exact s2.seq hS, _, _, rfl, rfl, (Uw82.ints s).sum - 1, rfl, by rw [ints_sum]; omega, by rw [ints_sum]; omega, ?_⟩
      rw [show ((Uw82.ints s).sum - 1).toNat = Uw82.total s - 1 by rw [ints_sum]; omega]
      refine for_range (lo := 0) (n := Uw82.total s - 1) (fun i σ H' => ∃ (v : Option V) (u : Addr), σ = [some (.ref po), some (.ref pb), some (.ref u), some (.int (UM.sizes r i [(s, 1)] : Nat)), v] ∧ Same H H' ∧ H' u = some (.dT (wd (wblinds r i [(s, 1)]))))
        ⟨none, p, rfl, s2, by rw [upd_same]; rfl⟩ ?_ ?_
      · rintro i σ H1 hi ⟨v, u, rfl, s3, hu1⟩
        obtain ⟨g1, g2, g3⟩ := blinds_ok G hl h8 (i := i) (by omega)
        refine ⟨_, rfl, _, rfl, po, u, as, r, _, rfl, G, R.same s3, hu1, g1, g2, g3 (by omega), fun H2 p2 s4 hp2 h2 => ?_⟩
        refine ⟨_, rfl, _, rfl, p2, _, rfl, .inl h2, _, _, rfl, rfl, some (.int (0 + (i : Int))), p2, ?_, s3.trans s4, ?_⟩
        · rw [wd_len, UM.sizes_succ, UM.wblinds_succ]
          rfl
        · rw [UM.wblinds_succ]
          exact h2
      · rintro σ H1 ⟨v, u, rfl, s3, hu1⟩
        exact ⟨_, rfl, q H1 s3⟩
end
end U

end
section
set_option Elab.async false
set_option linter.all false
set_option maxRecDepth 100000
set_option maxHeartbeats 4000000
/-! Colours that matter, and rules by their numbers. -/
namespace U
open PySem PySem.Spec PyProof.Rows L2
open UM (Ways wput wdraw1 wdraws wblind wblinds wsum ukeys rowsOf rowOf setRule setAt GoodR GoodS tpre)
section
variable {P : Program} {w : World} {K : PySem.W.Frag} {mg : Str → Option Value} {base : Heap}
/-- what comes of a and b, read off the rows -/
theorem rows_read {H : Hp} {po : Addr} {as : List Addr} {r : Uw82.Rule} (R : RowsA H po as (rowsOf r)) {a b : Nat} (ha : a < r.k) (hb : b < r.k) :
    ∃ ra, atI (as.map V.ref) (a : Int) = some (.ref ra) ∧ H ra = some (.lst (iv (rowOf r a))) ∧ atI (iv (rowOf r a)) (b : Int) = some (.int (Uw82.comesOf r a b : Nat)) := by
  obtain ⟨ra, g1, g2⟩ := R.get (UM.rows_at ha)
  refine ⟨ra, R.ref g1, g2, ?_⟩
  have g3 : b < (rowOf r a).length := by rw [UM.row_len]; exact hb
  rw [iv_atI g3, List.getD_eq_getElem?_getD, UM.row_at hb]
  rfl
def spDoes : Sp := fun vs H Q _ => ∃ (po : Addr) (as : List Addr) (r : Uw82.Rule) (a b c : Nat), vs = [.ref po, .int (a : Int), .int (b : Int), .int (c : Int)] ∧ GoodR r ∧ RowsA H po as (rowsOf r) ∧ a < r.k ∧ b < r.k ∧ c < r.k ∧ Q (.bl (Uw82.matters r a b c)) H
theorem scDoes : FnScope ["outcomes", "a", "b", "c"] ["outcomes", "a", "b", "c"] (defScope sDoes) := ⟨rfl, rfl, rfl, by decide +kernel, rfl, by decide +kernel, by decide +kernel⟩
theorem ok_does {f : Addr} {fd : FuncData} (F : Fun K "do_matter" "do_matter" sDoes f fd) : FnOk P w K mg base CX0 1 f fd ["outcomes", "a", "b", "c"] spDoes := by
  refine F.ok scDoes (fun vs H Q E h => ?_) (fun cdv A outer s0 H vs Q E hr h => ?_)
  · obtain ⟨po, as, r, a, b, c, rfl, _⟩ := h
    rfl
  · obtain ⟨po, as, r, a, b, c, rfl, G, R, ha, hb, hc, q⟩ := h
    obtain ⟨r1, x1, x2, x3⟩ := rows_read R ha hb
    obtain ⟨r2, y1, y2, y3⟩ := rows_read R hc (G.lt ha hb)
    obtain ⟨r3, z1, z2, z3⟩ := rows_read R hb hc
    obtain ⟨r4, u1, u2, u3⟩ := rows_read R ha (G.lt hb hc)
    refine ⟨_, pss_one (ps_ret (pe_cmpR op_ne
      (pe_ix ix_list (pe_ix ix_list (pv 0) (pv 3) (fun _ _ => rfl)) (pe_ix ix_list (pe_ix ix_list (pv 0) (pv 1) (fun _ _ => rfl)) (pv 2) (fun _ _ => rfl)) (fun _ _ => rfl))
      (pe_ix ix_list (pe_ix ix_list (pv 0) (pv 1) (fun _ _ => rfl)) (pe_ix ix_list (pe_ix ix_list (pv 0) (pv 2) (fun _ _ => rfl)) (pv 3) (fun _ _ => rfl)) (fun _ _ => rfl)) (nomark _))), ?_⟩
    refine ⟨_, rfl, _, rfl, po, _, _, _, rfl, rfl, SqL.of R.lst, y1, _, rfl, _, rfl, po, _, _, _, rfl, rfl, SqL.of R.lst, x1, _, rfl, r1, _, _, _, rfl, rfl, SqL.of x2, x3, r2, _, _, _, rfl, rfl, SqL.of y2, y3,
      _, rfl, _, rfl, po, _, _, _, rfl, rfl, SqL.of R.lst, u1, _, rfl, _, rfl, po, _, _, _, rfl, rfl, SqL.of R.lst, z1, _, rfl, r3, _, _, _, rfl, rfl, SqL.of z2, z3, r4, _, _, _, rfl, rfl, SqL.of u2, u3, rfl, ?_⟩
    rw [UM.matters_eq] at q
    have e : decide (V.int (Uw82.comesOf r c (Uw82.comesOf r a b) : Nat) = V.int (Uw82.comesOf r a (Uw82.comesOf r b c) : Nat)) = decide (Uw82.comesOf r c (Uw82.comesOf r a b) = Uw82.comesOf r a (Uw82.comesOf r b c)) := by
      by_cases z : Uw82.comesOf r c (Uw82.comesOf r a b) = Uw82.comesOf r a (Uw82.comesOf r b c)
      · rw [z]; simp
      · rw [decide_eq_false z, decide_eq_false (fun h => z (by have := V.int.inj h; omega))]
    rw [e]
    exact q
/-- the three that matter first, as a list -/
def three (r : Uw82.Rule) : List Nat := match Uw82.firstMatter r with
  | none => []
  | some x => [x.1, x.2.1, x.2.2]
def spFirst : Sp := fun vs H Q _ => ∃ (po : Addr) (as : List Addr) (r : Uw82.Rule), vs = [.ref po] ∧ GoodR r ∧ RowsA H po as (rowsOf r) ∧ ∀ p, H p = none → Q (.ref p) (upd H p (.lst (iv (three r))))
theorem scFirst : FnScope ["outcomes", "colours", "a", "b", "c"] ["outcomes"] (defScope sFirst) := ⟨rfl, rfl, rfl, by decide +kernel, rfl, by decide +kernel, by decide +kernel⟩
theorem ok_first {f : Addr} {fd : FuncData} (F : Fun K "first_that_matter" "first_that_matter" sFirst f fd) (B : Bt mg) (GM : Has P w K mg base "do_matter" 1 ["outcomes", "a", "b", "c"] spDoes) : FnOk P w K mg base CX0 2 f fd ["outcomes"] spFirst := by
  refine F.ok scFirst (fun vs H Q E h => ?_) (fun cdv A outer s0 H vs Q E hr h => ?_)
  · obtain ⟨po, as, r, rfl, _⟩ := h
    rfl
  · obtain ⟨po, as, r, rfl, G, R, q⟩ := h
    have k4 := G.k4
    have hlen : as.length = r.k := by rw [R.len, UM.rows_len]
    refine ⟨_, pss_cons (ps_set (i := 1) scFirst.nd rfl (Or.inl rfl) (pe_callB call_len_seq rfl B.len bl_len (pa_cons (pv 0) pa_nil)))
      (pss_cons (ps_for PassesOwn.never rfl (pi_range1 rfl B.range (pa_cons (pv 1) pa_nil)) (pg_name (i := 2) scFirst.nd rfl (Or.inl rfl))
        (pss_one (ps_for PassesOwn.never rfl (pi_range1 rfl B.range (pa_cons (pv 1) pa_nil)) (pg_name (i := 3) scFirst.nd rfl (Or.inl rfl))
          (pss_one (ps_for PassesOwn.never rfl (pi_range1 rfl B.range (pa_cons (pv 1) pa_nil)) (pg_name (i := 4) scFirst.nd rfl (Or.inl rfl))
            (pss_one (ps_if (pt_val (pe_has GM hr rfl (pa_cons (pv 0) (pa_cons (pv 2) (pa_cons (pv 3) (pa_cons (pv 4) pa_nil))))))
              (pss_one (ps_ret (pe_lst (pa_cons (pv 2) (pa_cons (pv 3) (pa_cons (pv 4) pa_nil)))))) pss_nil)))))))
      (pss_one (ps_ret (pe_lst pa_nil)))), ?_⟩
    refine ⟨_, rfl, po, _, rfl, .inl (SqL.of R.lst), ?_⟩
    rw [List.length_map, hlen]
    refine ⟨_, rfl, (r.k : Int), rfl, by omega, by omega, for_range (lo := 0) (n := r.k) (fun i σ H' => ∃ va vb vc : Option V, σ = [some (.ref po), some (.int (r.k : Int)), va, vb, vc] ∧ H' = H ∧ UM.NoneTill r i 0 0)
      ⟨none, none, none, rfl, rfl, UM.NoneTill.start r⟩ ?_ ?_⟩
    · rintro i σ H1 hi ⟨va, vb, vc, rfl, rfl, n1⟩
      refine ⟨_, rfl, (r.k : Int), rfl, by omega, by omega, for_range (lo := 0) (n := r.k) (fun j σ H' => ∃ vb vc : Option V, σ = [some (.ref po), some (.int (r.k : Int)), some (.int (i : Int)), vb, vc] ∧ H' = H1 ∧ UM.NoneTill r i j 0)
        ⟨vb, vc, by rw [Int.zero_add]; rfl, rfl, n1⟩ ?_ ?_⟩
      · rintro j σ H2 hj ⟨vb, vc, rfl, rfl, n2⟩
        refine ⟨_, rfl, (r.k : Int), rfl, by omega, by omega, for_range (lo := 0) (n := r.k) (fun k σ H' => ∃ vc : Option V, σ = [some (.ref po), some (.int (r.k : Int)), some (.int (i : Int)), some (.int (j : Int)), vc] ∧ H' = H2 ∧ UM.NoneTill r i j k)
          ⟨vc, by rw [Int.zero_add]; rfl, rfl, n2⟩ ?_ ?_⟩
        · rintro k σ H3 hk ⟨vc, rfl, rfl, n3⟩
          refine ⟨_, rfl, _, rfl, _, rfl, _, rfl, po, as, r, i, j, k, by rw [Int.zero_add]; rfl, G, R, hi, hj, hk, _, rfl, ite2 (fun h => ?_) (fun h => ?_)⟩
          · refine ⟨_, rfl, _, rfl, _, rfl, (by show 3 ≤ sizeLine; decide), fun p hp => ?_⟩
            have e := q p hp
            unfold three at e
            rw [UM.first_some n3 hi hj hk h] at e
            rw [Int.zero_add]
            exact e
          · refine ⟨_, rfl, rfl, n3.c ?_⟩
            cases z : Uw82.matters r i j k with
            | true => exact absurd z h
            | false => rfl
        · rintro σ H3 ⟨vc, rfl, rfl, n3⟩
          exact ⟨_, _, rfl, rfl, n3.b⟩
      · rintro σ H2 ⟨vb, vc, rfl, rfl, n2⟩
        exact ⟨_, _, _, rfl, rfl, n2.a⟩
    · rintro σ H1 ⟨va, vb, vc, rfl, rfl, n1⟩
      refine ⟨Nat.zero_le _, fun p hp => ?_⟩
      have e := q p hp
      unfold three at e
      rw [UM.first_none n1] at e
      exact e
/-! ### count_rules -/
def spMany : Sp := fun vs H Q _ => ∃ k : Nat, vs = [.int (k : Int)] ∧ 2 ≤ k ∧ k ≤ 3 ∧ Q (.int (UM.manyRules k : Nat)) H
theorem scMany : FnScope ["colours", "many", "a", "b"] ["colours"] (defScope sMany) := ⟨rfl, rfl, rfl, by decide +kernel, rfl, by decide +kernel, by decide +kernel⟩
theorem ok_many {f : Addr} {fd : FuncData} (F : Fun K "count_rules" "count_rules" sMany f fd) (B : Bt mg) : FnOk P w K mg base CX0 1 f fd ["colours"] spMany := by
  refine F.ok scMany (fun vs H Q E h => ?_) (fun cdv A outer s0 H vs Q E hr h => ?_)
  · obtain ⟨k, rfl, _⟩ := h
    rfl
  · obtain ⟨k, rfl, k2, k3, q⟩ := h
    refine ⟨_, pss_cons (ps_set (i := 1) scMany.nd rfl (Or.inl rfl) pe_int)
      (pss_cons (ps_for PassesOwn.never rfl (pi_range1 rfl B.range (pa_cons (pv 0) pa_nil)) (pg_name (i := 2) scMany.nd rfl (Or.inl rfl))
        (pss_one (ps_for PassesOwn.never rfl (pi_range2 rfl B.range (pa_cons (pv 2) (pa_cons (pv 0) pa_nil))) (pg_name (i := 3) scMany.nd rfl (Or.inl rfl))
          (pss_one (ps_set (i := 1) scMany.nd rfl (Or.inl rfl) (pe_op op_mul (pv 1) (pv 0)))))))
      (pss_one (ps_ret (pv 1)))), ?_⟩
    refine ⟨_, rfl, (k : Int), rfl, by omega, by omega, for_range (lo := 0) (n := k) (fun i σ H' => ∃ va vb : Option V, σ = [some (.int (k : Int)), some (.int ((tpre k i 0).foldl (fun m _ => m * k) 1 : Nat)), va, vb] ∧ H' = H)
      ⟨none, none, rfl, rfl⟩ ?_ ?_⟩
    · rintro i σ H1 hi ⟨va, vb, rfl, rfl⟩
      refine ⟨_, rfl, _, rfl, (0 + (i : Int)), (k : Int), rfl, ⟨by omega, by omega, by omega, by omega⟩, ?_⟩
      rw [show ((k : Int) - (0 + (i : Int))).toNat = k - i by omega]
      refine for_range (lo := 0 + (i : Int)) (n := k - i) (fun j σ H' => ∃ va vb : Option V, σ = [some (.int (k : Int)), some (.int ((tpre k i j).foldl (fun m _ => m * k) 1 : Nat)), va, vb] ∧ H' = H1) ⟨_, vb, rfl, rfl⟩ ?_ ?_
      · rintro j σ H2 hj ⟨va, vb, rfl, rfl⟩
        refine ⟨_, rfl, _, rfl, _, _, rfl, rfl, .inr ⟨by omega, by omega⟩, va, some (.int (0 + (i : Int) + (j : Int))), ?_, rfl⟩
        rw [UM.pre_snoc, List.foldl_append]
        rfl
      · rintro σ H2 ⟨va, vb, rfl, rfl⟩
        refine ⟨va, vb, ?_, rfl⟩
        rw [← UM.pre_next]
    · rintro σ H1 ⟨va, vb, rfl, rfl⟩
      refine ⟨_, rfl, ?_⟩
      rw [UM.pre_all k2 (by omega)]
      exact q
/-! ### numbered_rule -/
def spNum : Sp := fun vs H Q _ => ∃ k n : Nat, vs = [.int (k : Int), .int (n : Int)] ∧ 2 ≤ k ∧ k ≤ 3 ∧ ∀ (H' : Hp) (p : Addr) (as : List Addr), Same H H' → H p = none → RowsA H' p as (rowsOf (UM.numRule k n)) → Q (.ref p) H'
theorem scNum : FnScope ["colours", "number", "outcomes", "a", "b"] ["colours", "number"] (defScope sNum) := ⟨rfl, rfl, rfl, by decide +kernel, rfl, by decide +kernel, by decide +kernel⟩
theorem set_rows {H : Hp} {po : Addr} {as : List Addr} {M : List (List Nat)} (R : RowsA H po as M) {a b : Nat} {row : List Nat} (hr : M[a]? = some row) (hb : b < row.length) :
    ∃ ra, atI (as.map V.ref) (a : Int) = some (.ref ra) ∧ H ra = some (.lst (iv row)) ∧ ixN (iv row).length (b : Int) = some b ∧ ra ∈ as ∧ ∀ c : Nat, RowsA (upd H ra (.lst ((iv row).set b (.int (c : Int))))) po as (setAt M a b c) := by
  obtain ⟨ra, g1, g2⟩ := R.get hr
  refine ⟨ra, R.ref g1, g2, ixN_nat (by rw [iv_len]; exact hb), List.mem_of_getElem? g1, fun c => ?_⟩
  rw [iv_set]
  exact R.set g1 b c hr
theorem setAt_row {r : Uw82.Rule} {a b c : Nat} (ha : a < r.k) (hb : b < r.k) : ∃ row, (setAt (rowsOf r) a b c)[b]? = some row ∧ a < row.length := by
  unfold setAt
  by_cases e : a = b
  · subst e
    refine ⟨_, List.getElem?_set_self (by rw [UM.rows_len]; exact ha), ?_⟩
    rw [List.length_set, List.getD_eq_getElem?_getD, UM.rows_at ha]
    show a < (rowOf r a).length
    rw [UM.row_len]
    exact ha
  · refine ⟨rowOf r b, ?_, by rw [UM.row_len]; exact ha⟩
    rw [List.getElem?_set_ne e, UM.rows_at hb]
theorem ok_num {f : Addr} {fd : FuncData} (F : Fun K "numbered_rule" "numbered_rule" sNum f fd) (B : Bt mg) (GL : Has P w K mg base "lower_outcomes" 1 ["colours"] spLower) : FnOk P w K mg base CX0 2 f fd ["colours", "number"] spNum := by
  refine F.ok scNum (fun vs H Q E h => ?_) (fun cdv A outer s0 H vs Q E hr h => ?_)
  · obtain ⟨k, n, rfl, _⟩ := h
    rfl
  · obtain ⟨k, n, rfl, k2, k3, q⟩ := h
    refine ⟨_, pss_cons (ps_set (i := 2) scNum.nd rfl (Or.inl rfl) (pe_has GL hr rfl (pa_cons (pv 0) pa_nil)))
      (pss_cons (ps_for PassesOwn.never rfl (pi_range1 rfl B.range (pa_cons (pv 0) pa_nil)) (pg_name (i := 3) scNum.nd rfl (Or.inl rfl))
        (pss_one (ps_for PassesOwn.never rfl (pi_range2 rfl B.range (pa_cons (pv 3) (pa_cons (pv 0) pa_nil))) (pg_name (i := 4) scNum.nd rfl (Or.inl rfl))
          (pss_cons (ps_asg (pe_op op_mod (pv 1) (pv 0)) (pg_sub (pe_ix ix_list (pv 2) (pv 3) (fun _ _ => rfl)) (pv 4) set_list))
          (pss_cons (ps_asg (pe_op op_mod (pv 1) (pv 0)) (pg_sub (pe_ix ix_list (pv 2) (pv 4) (fun _ _ => rfl)) (pv 3) set_list))
          (pss_one (ps_set (i := 1) scNum.nd rfl (Or.inl rfl) (pe_op op_fdiv (pv 1) (pv 0)))))))))
      (pss_one (ps_ret (pv 2)))), ?_⟩
    refine ⟨_, rfl, k, rfl, k2, by omega, fun H0 po as s1 hpo has R0 => ?_⟩
    have inv : ∀ l : List (Nat × Nat), GoodR (l.foldl (UM.numStep k) (Uw82.lowest k, n)).1 ∧ (l.foldl (UM.numStep k) (Uw82.lowest k, n)).1.k = k := UM.num_good k2 (by omega) n
    refine ⟨_, rfl, (k : Int), rfl, by omega, by omega, for_range (lo := 0) (n := k) (fun i σ H' => ∃ va vb : Option V, σ = [some (.int (k : Int)), some (.int (((tpre k i 0).foldl (UM.numStep k) (Uw82.lowest k, n)).2 : Nat)), some (.ref po), va, vb] ∧ Same H H' ∧ RowsA H' po as (rowsOf ((tpre k i 0).foldl (UM.numStep k) (Uw82.lowest k, n)).1))
      ⟨none, none, rfl, s1, R0⟩ ?_ ?_⟩
    · rintro i σ H1 hi ⟨va, vb, rfl, s2, R1⟩
      refine ⟨_, rfl, _, rfl, (0 + (i : Int)), (k : Int), rfl, ⟨by omega, by omega, by omega, by omega⟩, ?_⟩
      rw [show ((k : Int) - (0 + (i : Int))).toNat = k - i by omega]
      refine for_range (lo := 0 + (i : Int)) (n := k - i) (fun j σ H' => ∃ vb : Option V, σ = [some (.int (k : Int)), some (.int (((tpre k i j).foldl (UM.numStep k) (Uw82.lowest k, n)).2 : Nat)), some (.ref po), some (.int (i : Int)), vb] ∧ Same H H' ∧ RowsA H' po as (rowsOf ((tpre k i j).foldl (UM.numStep k) (Uw82.lowest k, n)).1))
        ⟨vb, by rw [Int.zero_add]; rfl, s2, R1⟩ ?_ ?_
      · rintro j σ H2 hj ⟨vb, rfl, s3, R2⟩
        obtain ⟨G2, gk⟩ := inv (tpre k i j)
        have e0 : (tpre k i (j + 1)).foldl (UM.numStep k) (Uw82.lowest k, n) = UM.numStep k ((tpre k i j).foldl (UM.numStep k) (Uw82.lowest k, n)) (i, i + j) := by
          rw [UM.pre_snoc, List.foldl_append]
          rfl
        rw [e0]
        generalize (tpre k i j).foldl (UM.numStep k) (Uw82.lowest k, n) = st at *
        obtain ⟨r, x⟩ := st
        have gk : r.k = k := gk
        have e1 : (0 + (i : Int) + (j : Int)) = ((i + j : Nat) : Int) := by omega
        have hi' : i < r.k := by omega
        have hj' : i + j < r.k := by omega
        obtain ⟨ra, a1, a2, a3, a4, a5⟩ := set_rows R2 (UM.rows_at hi') (b := i + j) (by rw [UM.row_len]; exact hj')
        have R3 := a5 (x % k)
        obtain ⟨row, hrow, hlt⟩ := setAt_row (r := r) (c := x % k) hi' hj'
        obtain ⟨rb, b1, b2, b3, b4, b5⟩ := set_rows R3 hrow hlt
        have R4 := b5 (x % k)
        rw [UM.rows_set G2 hi' hj'] at R4
        have s4 : Same H (upd H2 ra (.lst ((iv (rowOf r i)).set (i + j) (.int ((x % k : Nat) : Int))))) := Same.upd s3 (.inl (has ra a4)) _
        have s5 := Same.upd s4 (.inl (has rb b4)) (.lst ((iv row).set i (.int ((x % k : Nat) : Int))))
        rw [e1]
        refine ⟨_, rfl, _, rfl, _, _, rfl, rfl, (by show (0 : Int) < (k : Int); omega), _, rfl, _, rfl, po, _, _, _, rfl, rfl, SqL.of R2.lst, a1, _, rfl, ra, _, _, _, rfl, rfl, a2, a3, ?_⟩
        refine ⟨_, rfl, _, rfl, _, _, rfl, rfl, (by show (0 : Int) < (k : Int); omega), _, rfl, _, rfl, po, _, _, _, rfl, rfl, SqL.of R3.lst, b1, _, rfl, rb, _, _, _, rfl, rfl, b2, b3, ?_⟩
        refine ⟨_, rfl, _, rfl, _, _, rfl, rfl, ⟨by omega, by omega⟩, _, rfl, s5, R4⟩
      · rintro σ H2 ⟨vb, rfl, s3, R2⟩
        refine ⟨some (.int (i : Int)), vb, ?_, s3, ?_⟩
        · rw [← UM.pre_next]
        · rw [← UM.pre_next]
          exact R2
    · rintro σ H1 ⟨va, vb, rfl, s2, R1⟩
      refine ⟨_, rfl, ?_⟩
      rw [UM.pre_all k2 (by omega)] at R1
      exact q H1 po as s2 hpo R1
/-! ### count_sure_rules -/
def spSures : Sp := fun vs H Q _ => ∃ k : Nat, vs = [.int (k : Int)] ∧ 2 ≤ k ∧ k ≤ 3 ∧ ∀ H' : Hp, Same H H' → Q (.int (UM.sureRules k : Nat)) H'
theorem scSures : FnScope ["colours", "many", "number"] ["colours"] (defScope sSures) := ⟨rfl, rfl, rfl, by decide +kernel, rfl, by decide +kernel, by decide +kernel⟩
theorem dp_ints {H : Hp} : ∀ l : List Nat, DpAll K H (iv l) (l.map fun (n : Nat) => PyData.int (n : Int))
  | [] => .nil
  | a :: l => .cons (.int _) (dp_ints l)
theorem shaped_ints (l : List Nat) : SeqAt.shaped (.list (l.map fun (n : Nat) => PyData.int (n : Int))) = true := by
  induction l with
  | nil => rfl
  | cons a l ih => exact ih
theorem eqv_nil (l : List Nat) : PyData.eqv (.list (l.map fun (n : Nat) => PyData.int (n : Int))) (.list []) = l.isEmpty := by
  cases l <;> rfl
theorem ok_sures {f : Addr} {fd : FuncData} (F : Fun K "count_sure_rules" "count_sure_rules" sSures f fd) (B : Bt mg) (GC : Has P w K mg base "count_rules" 1 ["colours"] spMany) (GF : Has P w K mg base "first_that_matter" 2 ["outcomes"] spFirst)
    (GN : Has P w K mg base "numbered_rule" 2 ["colours", "number"] spNum) : FnOk P w K mg base CX0 3 f fd ["colours"] spSures := by
  refine F.ok scSures (fun vs H Q E h => ?_) (fun cdv A outer s0 H vs Q E hr h => ?_)
  · obtain ⟨k, rfl, _⟩ := h
    rfl
  · obtain ⟨k, rfl, k2, k3, q⟩ := h
    have hu := hr.units
    have hm := UM.many_small k2 k3
    refine ⟨_, pss_cons (ps_set (i := 1) scSures.nd rfl (Or.inl rfl) pe_int)
      (pss_cons (ps_for PassesOwn.never rfl (pi_range1 rfl B.range (pa_cons (pe_has GC (hr.mono (by decide)) rfl (pa_cons (pv 0) pa_nil)) pa_nil)) (pg_name (i := 2) scSures.nd rfl (Or.inl rfl))
        (pss_one (ps_if (pt_cmpR (op_eqD hu) (pe_has GF hr rfl (pa_cons (pe_has GN hr rfl (pa_cons (pv 0) (pa_cons (pv 2) pa_nil))) pa_nil)) (pe_lst pa_nil) (nomark _))
          (pss_one (ps_set (i := 1) scSures.nd rfl (Or.inl rfl) (pe_op op_add (pv 1) pe_int))) pss_nil)))
      (pss_one (ps_ret (pv 1)))), ?_⟩
    refine ⟨_, rfl, k, rfl, k2, k3, (UM.manyRules k : Int), rfl, by omega, by omega, for_range (lo := 0) (n := UM.manyRules k) (fun i σ H' => ∃ v : Option V, σ = [some (.int (k : Int)), some (.int (UM.sureTill k i : Nat)), v] ∧ Same H H')
      ⟨none, rfl, Same.refl H⟩ ?_ ?_⟩
    · rintro i σ H1 hi ⟨v, rfl, s1⟩
      refine ⟨_, rfl, _, rfl, k, i, by rw [Int.zero_add]; rfl, k2, k3, fun H2 p as s2 hp R => ?_⟩
      obtain ⟨G, gk⟩ := UM.num_good k2 (by omega) i (Uw82.twos k)
      refine ⟨p, as, UM.numRule k i, rfl, G, R, fun u hu2 => ⟨Nat.zero_le _, fun e he => ?_⟩⟩
      have nue : u ≠ e := fun z => by
        rw [← z, upd_same] at he
        cases he
      have s3 : Same H (upd (upd H2 u (.lst (iv (three (UM.numRule k i))))) e (.lst [])) := Same.upd (Same.upd (s1.trans s2) (.inr hu2) _) (.inr he) _
      refine ⟨_, _, Dp.lst (SqL.of (by rw [upd_ne nue, upd_same])) (dp_ints _), Dp.lst (SqL.of upd_same) .nil, shaped_ints _, rfl, _, rfl, ?_⟩
      rw [eqv_nil]
      have ee : (three (UM.numRule k i)).isEmpty = (Uw82.firstMatter (UM.numRule k i)).isNone := by
        unfold three
        cases Uw82.firstMatter (UM.numRule k i) <;> rfl
      have es := UM.sureTill_succ k i
      refine ite2 (fun h => ?_) (fun h => ?_)
      · rw [ee] at h
        rw [if_pos h] at es
        refine ⟨_, rfl, _, _, rfl, rfl, some (.int (0 + (i : Int))), ?_, s3⟩
        rw [es]
        rfl
      · rw [ee] at h
        rw [if_neg h] at es
        refine ⟨some (.int (0 + (i : Int))), ?_, s3⟩
        rw [es]
        rfl
    · rintro σ H1 ⟨v, rfl, s1⟩
      exact ⟨_, rfl, q H1 s1⟩
end
end U

end
section
set_option Elab.async false
set_option linter.all false
set_option maxRecDepth 100000
set_option maxHeartbeats 4000000
/-! The urn's own object. -/
namespace U
open PySem PySem.Spec PyProof.Rows L2
open UM (Ways wput wdraw1 wdraws wblind wblinds wsum ukeys rowsOf rowOf setRule setAt GoodR GoodS tpre)
abbrev sInit : Stmt := inClass (top 35) 0
abbrev sOver : Stmt := inClass (top 35) 1
abbrev sHas : Stmt := inClass (top 35) 2
abbrev sBegins : Stmt := inClass (top 35) 3
abbrev sRule : Stmt := inClass (top 35) 4
abbrev sUrn : Stmt := inClass (top 35) 5
abbrev sDraw : Stmt := inClass (top 35) 6
abbrev sLasts : Stmt := inClass (top 35) 7
abbrev sSure : Stmt := inClass (top 35) 8
abbrev sComes : Stmt := inClass (top 35) 9
abbrev sChances : Stmt := inClass (top 35) 10
abbrev sAverage : Stmt := inClass (top 35) 11
abbrev sMatter : Stmt := inClass (top 35) 12
abbrev sRules : Stmt := inClass (top 35) 13
/-- the class's facts -/
structure Txt (K : PySem.W.Frag) (mg : Str → Option Value) (C : Addr) : Prop where
  cl : Cls K C
  nO : NoAttr K C "outcomes"
  nB : NoAttr K C "balls"
/-- the module's numbers -/
structure Cs (mg : Str → Option Value) : Prop where
  few : ∃ t, mg "FEWEST_COLOURS" = some (.int 2 t)
  most : ∃ t, mg "MOST_COLOURS" = some (.int 4 t)
  balls : ∃ t, mg "MOST_BALLS" = some (.int 8 t)
  rules : ∃ t, mg "MOST_COLOURS_OF_RULES" = some (.int 3 t)
  cBegins : ∃ t, mg "BEGINS" = some (.int 0 t)
  cRule : ∃ t, mg "RULE" = some (.int 1 t)
  cUrn : ∃ t, mg "URN" = some (.int 2 t)
  cDraw : ∃ t, mg "DRAW" = some (.int 3 t)
  cLasts : ∃ t, mg "LASTS" = some (.int 4 t)
  cSure : ∃ t, mg "SURE" = some (.int 5 t)
  cComes : ∃ t, mg "COMES" = some (.int 6 t)
  cChances : ∃ t, mg "CHANCES" = some (.int 7 t)
  cAverage : ∃ t, mg "AVERAGE" = some (.int 8 t)
  cMatter : ∃ t, mg "MATTER" = some (.int 9 t)
theorem pe_num {X : Cx} {x : Str} {i : Int} {pos : Pos} (h : ∃ t, X.mg x = some (.int i t)) (hg : Gl X x) (hd : (x == ("__debug__" : Str)) = false := by decide) : PE X (.Name x pos) (tC (.int i)) := by
  obtain ⟨t, h⟩ := h
  exact pe_glob (v := .int i) hg h ⟨t, rfl⟩ hd
/-- a method of the class's, with its promise -/
structure HasM (P : Program) (w : World) (K : PySem.W.Frag) (mg : Str → Option Value) (base : Heap) (C : Addr) (name : Str) (k : Nat) (ps : List Str) (sp : Sp) : Prop where
  ex : ∃ f fd, Meth K C name f ∧ Binds K fd ps [] ∧ FnOk P w K mg base CX0 k f fd ps sp
theorem HasM.mono {P : Program} {w : World} {K : PySem.W.Frag} {mg : Str → Option Value} {base : Heap} {C : Addr} {name : Str} {j k : Nat} {ps : List Str} {sp : Sp} (F : HasM P w K mg base C name j ps sp) (h : j ≤ k) : HasM P w K mg base C name k ps sp :=
  let ⟨f, fd, h1, h2, h3⟩ := F.ex; ⟨f, fd, h1, h2, h3.mono h⟩
theorem pe_hasM {X : Cx} {C : Addr} {m : Str} {k : Nat} {ps : List Str} {sp : Sp} {apos pos : Pos} {o e : Expr} {es : List Expr} {ta : TE} {t : TA} {pl : Sem Bool} (F : HasM X.prog X.w X.K X.mg X.base C m k ps sp) (c : Cls X.K C) (hr : Room k X.A) (he : PE X o ta) (ha : PA X (e :: es) t)
    (hst : starEach (e :: es) X.env = (false, eval e X.env) :: starEach es X.env := by rfl) (hpl : (backTo pos (starEach es X.env)).any (·.1) = false := by rfl)
    (ht : eval (.Call (.Attribute o m apos) (e :: es) [] pos) X.env = (do
      let ov ← eval o X.env
      standAt apos.atName
      let (f, first) ← holding [ov] (getMethod ov m pl)
      callWith pos f first (backTo pos (starEach (e :: es) X.env)) (backToKw pos (keywordEach [] X.env))) := by rfl) :
    PE X (.Call (.Attribute o m apos) (e :: es) [] pos) (tMeth C m sp [] E0 ta t) := by
  obtain ⟨f, fd, h1, h2, h3⟩ := F.ex
  exact pe_meth he c h1 h3 hr h2 .nil pass0 ha hst hpl ht
theorem pe_hasM0 {X : Cx} {C : Addr} {m : Str} {k : Nat} {ps : List Str} {sp : Sp} {apos pos : Pos} {o : Expr} {ta : TE} {pl : Sem Bool} (F : HasM X.prog X.w X.K X.mg X.base C m k ps sp) (c : Cls X.K C) (hr : Room k X.A) (he : PE X o ta)
    (ht : eval (.Call (.Attribute o m apos) [] [] pos) X.env = (do
      let ov ← eval o X.env
      standAt apos.atName
      let (f, first) ← holding [ov] (getMethod ov m pl)
      callWith pos f first (backTo pos (starEach [] X.env)) (backToKw pos (keywordEach [] X.env))) := by rfl) :
    PE X (.Call (.Attribute o m apos) [] [] pos) (tMeth C m sp [] E0 ta tNil) := by
  obtain ⟨f, fd, h1, h2, h3⟩ := F.ex
  exact pe_meth0 he c h1 h3 hr h2 .nil pass0 ht
/-! ### the object's attributes -/
theorem ne_ob : ¬ ("outcomes" : Str) = "balls" := by decide +kernel
theorem ne_bo : ¬ ("balls" : Str) = "outcomes" := by decide +kernel
theorem uf_mk (po pb : Addr) : putF "balls" (.ref pb) (putF "outcomes" (.ref po) []) = uf po pb := by
  show putF "balls" (.ref pb) [("outcomes", V.ref po)] = _
  unfold putF
  rw [if_neg ne_ob]
  rfl
theorem uf_o (po pb : Addr) : (uf po pb).lookup ("outcomes" : Str) = some (.ref po) := by
  rw [← uf_mk, lookup_putF, if_neg ne_ob, lookup_putF, if_pos rfl]
theorem uf_b (po pb : Addr) : (uf po pb).lookup ("balls" : Str) = some (.ref pb) := by
  rw [← uf_mk, lookup_putF, if_pos rfl]
theorem uf_no (po pb : Addr) {m : Str} (h1 : ¬ m = "outcomes") (h2 : ¬ m = "balls") : (uf po pb).lookup m = none := by
  rw [← uf_mk, lookup_putF, if_neg h2, lookup_putF, if_neg h1]
  all_goals rfl
theorem uf_putb (po pb q : Addr) : putF "balls" (.ref q) (uf po pb) = uf po q := by
  unfold uf
  rw [putF, if_neg ne_ob, putF, if_pos rfl]
theorem uf_puto (po pb q : Addr) : putF "outcomes" (.ref q) (uf po pb) = uf q pb := by
  unfold uf
  rw [putF, if_pos rfl]
/-! ### what a call's end gives -/
def Fin (C : Addr) (H : Hp) (p : Addr) (own : List Addr) (s' : Uw82.St) (ans : List Int) (Q : VK) : Prop :=
  ∀ (H' : Hp) (q : Addr) (own' : List Addr), UrnAt C H' p own' s' → (∀ b o, H b = some o → b ∉ own → H' b = some o) → (∀ b ∈ own', b ∈ own ∨ H b = none) → H q = none → H' q = some (.lst (ans.map V.int)) → Q (.ref q) H'
theorem Fin.read {C : Addr} {H : Hp} {p : Addr} {own : List Addr} {s : Uw82.St} {ans : List Int} {Q : VK} (F : Fin C H p own s ans Q) (U : UrnAt C H p own s) {H' : Hp} {q : Addr} (sm : Same H H') (hq : H q = none) (h : H' q = some (.lst (ans.map V.int))) : Q (.ref q) H' :=
  F H' q own (U.same sm) (fun b o e _ => sm b o e) (fun b hb => .inl hb) hq h
/-- a method that speaks of numbers alone -/
def spCall (C : Addr) (n : Nat) (call : List Nat → Uw82.Call) : Sp := fun vs H Q _ => ∃ (p : Addr) (own : List Addr) (s : Uw82.St) (xs : List Nat), vs = .ref p :: iv xs ∧ xs.length = n ∧ UrnAt C H p own s ∧ GoodS s ∧ Fin C H p own (Uw82.step s (call xs)).1 (Uw82.step s (call xs)).2 Q
theorem spCall.len {C : Addr} {n : Nat} {call : List Nat → Uw82.Call} {vs : List V} {H : Hp} {Q : VK} {E : XK} (h : spCall C n call vs H Q E) : vs.length = n + 1 := by
  obtain ⟨p, own, s, xs, rfl, hn, _⟩ := h
  rw [List.length_cons, iv_len, hn]
theorem one_of {xs : List Nat} (h : xs.length = 1) : ∃ a, xs = [a] := match xs, h with | [a], _ => ⟨a, rfl⟩
theorem two_of {xs : List Nat} (h : xs.length = 2) : ∃ a b, xs = [a, b] := match xs, h with | [a, b], _ => ⟨a, b, rfl⟩
theorem three_of {xs : List Nat} (h : xs.length = 3) : ∃ a b c, xs = [a, b, c] := match xs, h with | [a, b, c], _ => ⟨a, b, c, rfl⟩
theorem none_of {xs : List Nat} (h : xs.length = 0) : xs = [] := List.length_eq_zero_iff.mp h
section
variable {P : Program} {w : World} {K : PySem.W.Frag} {mg : Str → Option Value} {base : Heap}
/-! ### start_over, __init__ -/
def spOver (C : Addr) : Sp := fun vs H Q _ => ∃ (p dx : Addr) (fs : List (Str × V)) (k : Nat), vs = [.ref p, .int (k : Int)] ∧ H p = some (.ins C dx fs) ∧ (fs = [] ∨ ∃ po pb, fs = uf po pb) ∧ 2 ≤ k ∧ k ≤ 4 ∧
  ∀ (H' : Hp) (po pb : Addr) (as : List Addr), H' p = some (.ins C dx (uf po pb)) → RowsA H' po as (rowsOf (Uw82.lowest k)) → H' pb = some (.lst (iv (List.replicate k 0))) → pb ∉ as → H po = none → H pb = none → (∀ a ∈ as, H a = none) → (∀ b o, H b = some o → b ≠ p → H' b = some o) → Q .non H'
theorem rep_zero (k : Nat) : (List.replicate k [V.int 0]).flatten = iv (List.replicate k 0) := by
  induction k with
  | zero => rfl
  | succ k ih =>
    rw [List.replicate_succ, List.flatten_cons, ih, List.replicate_succ]
    rfl
theorem scOver : FnScope ["self", "colours"] ["self", "colours"] (defScope sOver) := ⟨rfl, rfl, rfl, by decide +kernel, rfl, by decide +kernel, by decide +kernel⟩
theorem ok_over {f C : Addr} {fd : FuncData} (F : Fun K "start_over" "Urn.start_over" sOver f fd) (T : Txt K mg C) (GL : Has P w K mg base "lower_outcomes" 1 ["colours"] spLower) : FnOk P w K mg base CX0 2 f fd ["self", "colours"] (spOver C) := by
  refine F.ok scOver (fun vs H Q E h => ?_) (fun cdv A outer s0 H vs Q E hr h => ?_)
  · obtain ⟨p, dx, fs, k, rfl, _⟩ := h
    rfl
  · obtain ⟨p, dx, fs, k, rfl, hp, hfs, k2, k4, q⟩ := h
    have hsl := sizeLine_eq
    refine ⟨_, pss_cons (ps_fld (pv 0) (pe_has GL hr rfl (pa_cons (pv 1) pa_nil)) rfl) (pss_one (ps_fld (pv 0) (pe_op op_rep (pe_lst (pa_cons pe_int pa_nil)) (pv 1)) rfl)), ?_⟩
    refine ⟨_, rfl, k, rfl, k2, k4, fun H1 po as s1 hpo has R => ?_⟩
    have hf1 : fs.length < 1000 := by
      rcases hfs with rfl | ⟨x, y, rfl⟩
      · decide
      · show 2 < 1000
        decide
    refine ⟨_, rfl, p, C, dx, fs, rfl, s1 _ _ hp, T.cl, T.nO, hf1, ?_⟩
    have npo : po ≠ p := fun e => by
      rw [e, hp] at hpo
      cases hpo
    have nas : ∀ a ∈ as, a ≠ p := fun a ha e => by
      have := has a ha
      rw [e, hp] at this
      cases this
    have R2 : RowsA (upd H1 p (.ins C dx (putF "outcomes" (.ref po) fs))) po as (rowsOf (Uw82.lowest k)) := R.keep fun b o hb e => by
      rw [upd_ne]
      · exact e
      · rcases hb with rfl | hb
        · exact npo
        · exact nas b hb
    refine ⟨(by show 1 ≤ sizeLine; decide), fun l hl => ?_⟩
    refine ⟨_, rfl, l, (k : Int), _, rfl, rfl, upd_same, by omega, by omega, (by show 1 * (k : Int).toNat ≤ sizeLine; omega), fun pb hpb => ?_⟩
    have s2 : Same (upd H1 p (.ins C dx (putF "outcomes" (.ref po) fs))) (upd (upd (upd H1 p (.ins C dx (putF "outcomes" (.ref po) fs))) l (.lst [.int 0])) pb (.lst (List.replicate (k : Int).toNat [V.int 0]).flatten)) := Same.upd (same_new hl _) (.inr hpb) _
    have hf2 : (putF "outcomes" (V.ref po) fs).length < 1000 ∧ putF "balls" (V.ref pb) (putF "outcomes" (V.ref po) fs) = uf po pb := by
      rcases hfs with rfl | ⟨x, y, rfl⟩
      · exact ⟨by show 1 < 1000; decide, uf_mk po pb⟩
      · rw [uf_puto, uf_putb]
        exact ⟨by show 2 < 1000; decide, rfl⟩
    refine ⟨_, rfl, p, C, dx, _, rfl, s2 _ _ upd_same, T.cl, T.nB, hf2.1, ?_⟩
    rw [hf2.2]
    have hpb0 : (upd H1 p (.ins C dx (putF "outcomes" (.ref po) fs))) pb = none := (same_new hl _).free hpb
    have npb : pb ≠ p := fun e => by
      rw [e, upd_same] at hpb0
      cases hpb0
    have hpb1 : H1 pb = none := by rwa [upd_ne npb] at hpb0
    have R3 := R2.same s2
    refine q _ po pb as upd_same (R3.keep fun b o hb e => ?_) ?_ (fun m => ?_) hpo (s1.free hpb1) has fun b o e hb => ?_
    · rw [upd_ne]
      · exact e
      · rcases hb with rfl | hb
        · exact npo
        · exact nas b hb
    · rw [upd_ne npb, upd_same]
      show some (HO.lst (List.replicate k [V.int 0]).flatten) = _
      rw [rep_zero]
    · obtain ⟨j, hj⟩ := List.getElem?_of_mem m
      obtain ⟨row, _, e⟩ := R.at_ j pb hj
      rw [hpb1] at e
      cases e
    · rw [upd_ne hb]
      exact s2 _ _ (by rw [upd_ne hb]; exact s1 _ _ e)
def spInit (C : Addr) : Sp := fun vs H Q _ => ∃ (p dx : Addr), vs = [.ref p] ∧ H p = some (.ins C dx []) ∧ ∀ (H' : Hp) (own : List Addr), UrnAt C H' p own Uw82.init → (∀ b ∈ own, b = p ∨ H b = none) → (∀ b o, H b = some o → b ≠ p → H' b = some o) → Q .non H'
theorem scInit : FnScope ["self"] ["self"] (defScope sInit) := ⟨rfl, rfl, rfl, by decide +kernel, rfl, by decide +kernel, by decide +kernel⟩
theorem ok_init {f C : Addr} {fd : FuncData} (F : Fun K "__init__" "Urn.__init__" sInit f fd) (T : Txt K mg C) (N : Cs mg) (GO : HasM P w K mg base C "start_over" 2 ["self", "colours"] (spOver C)) : FnOk P w K mg base CX0 3 f fd ["self"] (spInit C) := by
  refine F.ok scInit (fun vs H Q E h => ?_) (fun cdv A outer s0 H vs Q E hr h => ?_)
  · obtain ⟨p, dx, rfl, _⟩ := h
    rfl
  · obtain ⟨p, dx, rfl, hp, q⟩ := h
    refine ⟨_, pss_one (ps_expr (pe_hasM GO T.cl hr (pv 0) (pa_cons (pe_num N.few rfl) pa_nil))), ?_⟩
    refine ⟨_, rfl, p, dx, _, rfl, hp, rfl, p, dx, [], 2, rfl, hp, .inl rfl, by decide, by decide, fun H' po pb as h1 R h2 h3 h4 h5 h6 kp => ?_⟩
    refine q H' (p :: po :: pb :: as) ⟨dx, po, pb, as, rfl, h1, R, h2, h3⟩ (fun b hb => ?_) kp
    rcases List.mem_cons.mp hb with rfl | hb
    · exact .inl rfl
    · rcases List.mem_cons.mp hb with rfl | hb
      · exact .inr h4
      · rcases List.mem_cons.mp hb with rfl | hb
        · exact .inr h5
        · exact .inr (h6 b hb)
/-! ### has_colour -/
def spHas (C : Addr) : Sp := fun vs H Q _ => ∃ (p : Addr) (own : List Addr) (s : Uw82.St) (c : Nat), vs = [.ref p, .int (c : Int)] ∧ UrnAt C H p own s ∧ Q (.bl (decide (c < s.urn.length))) H
theorem scHas : FnScope ["self", "colour"] ["self", "colour"] (defScope sHas) := ⟨rfl, rfl, rfl, by decide +kernel, rfl, by decide +kernel, by decide +kernel⟩
theorem dec_cast (a b : Nat) : decide ((a : Int) < (b : Int)) = decide (a < b) := by
  by_cases h : a < b
  · rw [decide_eq_true h, decide_eq_true (by omega)]
  · rw [decide_eq_false h, decide_eq_false (by omega)]
theorem ok_has {f C : Addr} {fd : FuncData} (F : Fun K "has_colour" "Urn.has_colour" sHas f fd) (T : Txt K mg C) (B : Bt mg) : FnOk P w K mg base CX0 1 f fd ["self", "colour"] (spHas C) := by
  refine F.ok scHas (fun vs H Q E h => ?_) (fun cdv A outer s0 H vs Q E hr h => ?_)
  · obtain ⟨p, own, s, c, rfl, _⟩ := h
    rfl
  · obtain ⟨p, own, s, c, rfl, U, q⟩ := h
    obtain ⟨dx, po, pb, as, rfl, h1, R, h2, h3⟩ := U.ex
    refine ⟨_, pss_one (ps_ret (pe_cmpR op_lt (pv 1) (pe_callB call_len_seq rfl B.len bl_len (pa_cons (pe_fld (pv 0) rfl) pa_nil)) (nomark _))), ?_⟩
    refine ⟨_, rfl, _, rfl, p, C, dx, _, _, rfl, h1, T.cl, T.nB, uf_b po pb, pb, _, rfl, .inl (SqL.of h2), _, _, rfl, rfl, ?_⟩
    show Q (.bl (decide ((c : Int) < ((iv s.urn).length : Int)))) H
    rw [iv_len, dec_cast]
    exact q
/-! ### begins -/
theorem scBegins : FnScope ["self", "colours"] ["self", "colours"] (defScope sBegins) := ⟨rfl, rfl, rfl, by decide +kernel, rfl, by decide +kernel, by decide +kernel⟩
theorem ok_begins {f C : Addr} {fd : FuncData} (F : Fun K "begins" "Urn.begins" sBegins f fd) (T : Txt K mg C) (N : Cs mg) (GO : HasM P w K mg base C "start_over" 2 ["self", "colours"] (spOver C)) :
    FnOk P w K mg base CX0 3 f fd ["self", "colours"] (spCall C 1 fun xs => .begins (xs.getD 0 0)) := by
  refine F.ok scBegins (fun vs H Q E h => spCall.len h) (fun cdv A outer s0 H vs Q E hr h => ?_)
  obtain ⟨p, own, s, xs, rfl, hn, U, G, q⟩ := h
  obtain ⟨k, rfl⟩ := one_of hn
  have q : Fin C H p own (if k < 2 ∨ 4 < k then (s, [-1]) else (⟨Uw82.lowest k, List.replicate k 0⟩, [0]) : Uw82.St × List Int).1 (if k < 2 ∨ 4 < k then (s, [-1]) else (⟨Uw82.lowest k, List.replicate k 0⟩, [0]) : Uw82.St × List Int).2 Q := q
  refine ⟨_, pss_cons (ps_if (PW.pt (pw_or (pt_cmpR op_lt (pv 1) (pe_num N.few rfl) (nomark _)) (pw_or1 (pt_cmpR op_gt (pv 1) (pe_num N.most rfl) (nomark _))))) (pss_one (ps_ret (pe_lst (pa_cons (pe_un un_neg pe_int) pa_nil)))) pss_nil)
    (pss_cons (ps_expr (pe_hasM GO T.cl hr (pv 0) (pa_cons (pv 1) pa_nil))) (pss_one (ps_ret (pe_lst (pa_cons pe_int pa_nil))))), ?_⟩
  have no : (k < 2 ∨ 4 < k) → ∀ l, H l = none → Q (.ref l) (upd H l (.lst [.int (-1)])) := fun h l hl => by
    rw [if_pos h] at q
    exact q.read U (same_new hl _) hl upd_same
  refine ⟨_, rfl, _, _, rfl, rfl, _, rfl, ite2 (fun h => iteT ?_) (fun h => ⟨_, rfl, _, _, rfl, rfl, _, rfl, ite2 (fun h' => ?_) (fun h' => ?_)⟩)⟩
  · have h := of_decide_eq_true h
    exact ⟨_, rfl, (by show 1 ≤ sizeLine; decide), no (by omega)⟩
  · have h' := of_decide_eq_true h'
    exact ⟨_, rfl, (by show 1 ≤ sizeLine; decide), no (by omega)⟩
  · have k2 : 2 ≤ k := by
      rcases Nat.lt_or_ge k 2 with z | z
      · exact absurd (decide_eq_true (show (k : Int) < 2 by omega)) h
      · exact z
    have k4 : k ≤ 4 := by
      rcases Nat.lt_or_ge 4 k with z | z
      · exact absurd (decide_eq_true (show (4 : Int) < (k : Int) by omega)) h'
      · exact z
    rw [if_neg (by omega)] at q
    obtain ⟨dx, po, pb, as, rfl, h1, R, h2, h3⟩ := U.ex
    refine ⟨_, rfl, p, dx, _, rfl, h1, uf_no po pb (by decide +kernel) (by decide +kernel), _, rfl, p, dx, _, k, rfl, h1, .inr ⟨po, pb, rfl⟩, k2, k4, fun H' po' pb' as' g1 g2 g3 g4 g5 g6 g7 kp => ?_⟩
    refine ⟨(by show 1 ≤ sizeLine; decide), fun l hl => ?_⟩
    have hl0 : H l = none := by
      cases z : H l with
      | none => rfl
      | some o =>
        by_cases e : l = p
        · rw [e, g1] at hl
          cases hl
        · rw [kp l o z e] at hl
          cases hl
    have sm : Same H' (upd H' l (.lst [.int 0])) := same_new hl _
    refine q _ l (p :: po' :: pb' :: as') (UrnAt.same ⟨dx, po', pb', as', rfl, g1, g2, g3, g4⟩ sm) (fun b o e hb => sm _ _ (kp b o e fun z => hb (by rw [z]; simp))) (fun b hb => ?_) hl0 upd_same
    rcases List.mem_cons.mp hb with rfl | hb
    · exact .inl (by simp)
    · rcases List.mem_cons.mp hb with rfl | hb
      · exact .inr g5
      · rcases List.mem_cons.mp hb with rfl | hb
        · exact .inr g6
        · exact .inr (g7 b hb)
theorem Fin.to {C : Addr} {H : Hp} {p : Addr} {own : List Addr} {s s' : Uw82.St} {c : Uw82.Call} {ans : List Int} {Q : VK} (q : Fin C H p own (Uw82.step s c).1 (Uw82.step s c).2 Q) (e : Uw82.step s c = (s', ans)) : Fin C H p own s' ans Q := by
  rw [e] at q
  exact q
/-- a list of one number, all else as it was -/
theorem Fin.one {C : Addr} {H : Hp} {p : Addr} {own : List Addr} {s : Uw82.St} {x : Int} {Q : VK} (q : Fin C H p own s [x] Q) (U : UrnAt C H p own s) : ∀ l, H l = none → Q (.ref l) (upd H l (.lst [.int x])) := fun l hl => q.read U (same_new hl _) hl upd_same
theorem one_line : 1 ≤ sizeLine := by decide
theorem seq_but {H H' : Hp} {a p C dx : Addr} {fs : List (Str × V)} {xs : List V} (h : SqL K H a xs) (hp : H p = some (.ins C dx fs)) (kp : ∀ b o, H b = some o → b ≠ p → H' b = some o) : SqL K H' a xs := by
  rcases h with (h | ⟨o, h⟩) | h
  · exact .inl (.inl (kp _ _ h (ne_of h hp (by intro z; cases z))))
  · exact .inl (.inr ⟨o, kp _ _ h (ne_of h hp (by intro z; cases z))⟩)
  · exact .inr h
/-! ### rule -/
theorem scRule : FnScope ["self", "a", "b", "c", "before"] ["self", "a", "b", "c"] (defScope sRule) := ⟨rfl, rfl, rfl, by decide +kernel, rfl, by decide +kernel, by decide +kernel⟩
theorem ok_rule {f C : Addr} {fd : FuncData} (F : Fun K "rule" "Urn.rule" sRule f fd) (T : Txt K mg C) (GH : HasM P w K mg base C "has_colour" 1 ["self", "colour"] (spHas C)) :
    FnOk P w K mg base CX0 2 f fd ["self", "a", "b", "c"] (spCall C 3 fun xs => .rule (xs.getD 0 0) (xs.getD 1 0) (xs.getD 2 0)) := by
  refine F.ok scRule (fun vs H Q E h => spCall.len h) (fun cdv A outer s0 H vs Q E hr h => ?_)
  obtain ⟨p, own, s, xs, rfl, hn, U, G, q⟩ := h
  obtain ⟨a, b, c, rfl⟩ := three_of hn
  obtain ⟨dx, po, pb, as, rfl, h1, R, h2, h3⟩ := U.ex
  have hk := G.len
  have hno : (uf po pb).lookup ("has_colour" : Str) = none := uf_no po pb (by decide +kernel) (by decide +kernel)
  refine ⟨_, pss_cons (ps_if (pt_not (PW.pt (pw_and (pt_val (pe_hasM GH T.cl hr (pv 0) (pa_cons (pv 1) pa_nil))) (pw_and (pt_val (pe_hasM GH T.cl hr (pv 0) (pa_cons (pv 2) pa_nil))) (pw_and1 (pt_val (pe_hasM GH T.cl hr (pv 0) (pa_cons (pv 3) pa_nil))))))))
      (pss_one (ps_ret (pe_lst (pa_cons (pe_un un_neg pe_int) pa_nil)))) pss_nil)
    (pss_cons (ps_set (i := 4) scRule.nd rfl (Or.inl rfl) (pe_ix ix_list (pe_ix ix_list (pe_fld (pv 0) rfl) (pv 1) (fun _ _ => rfl)) (pv 2) (fun _ _ => rfl)))
    (pss_cons (ps_asg (pv 3) (pg_sub (pe_ix ix_list (pe_fld (pv 0) rfl) (pv 1) (fun _ _ => rfl)) (pv 2) set_list))
    (pss_cons (ps_asg (pv 3) (pg_sub (pe_ix ix_list (pe_fld (pv 0) rfl) (pv 2) (fun _ _ => rfl)) (pv 1) set_list))
    (pss_one (ps_ret (pe_lst (pa_cons (pv 4) pa_nil))))))), ?_⟩
  have no : (s.rule.k ≤ a ∨ s.rule.k ≤ b ∨ s.rule.k ≤ c) → ∀ l, H l = none → Q (.ref l) (upd H l (.lst [.int (-1)])) := fun h =>
    (Fin.to (c := .rule a b c) q (by rw [Uw82.step, if_pos h])).one U
  refine ⟨_, rfl, p, dx, _, rfl, h1, hno, _, rfl, p, _, s, a, rfl, U, _, rfl, ite2 (fun ha => ?_) (fun ha => ⟨_, rfl, one_line, no (by have := of_decide_eq_false (Bool.not_eq_true _ ▸ ha); omega)⟩)⟩
  refine ⟨_, rfl, p, dx, _, rfl, h1, hno, _, rfl, p, _, s, b, rfl, U, _, rfl, ite2 (fun hb => ?_) (fun hb => ⟨_, rfl, one_line, no (by have := of_decide_eq_false (Bool.not_eq_true _ ▸ hb); omega)⟩)⟩
  refine ⟨_, rfl, p, dx, _, rfl, h1, hno, _, rfl, p, _, s, c, rfl, U, _, rfl, ite2 (fun hc => ⟨_, rfl, one_line, no (by
    have := of_decide_eq_false (Bool.not_eq_true' _ ▸ hc)
    omega)⟩) (fun hc => ?_)⟩
  have ha : a < s.rule.k := by
    have := of_decide_eq_true ha
    omega
  have hb : b < s.rule.k := by
    have := of_decide_eq_true hb
    omega
  have hc : c < s.rule.k := by
    rcases Nat.lt_or_ge c s.rule.k with z | z
    · exact z
    · exact absurd (by rw [decide_eq_false (by omega)]; rfl) hc
  have q2 : Fin C H p (p :: po :: pb :: as) { s with rule := setRule s.rule a b c } [(Uw82.comesOf s.rule a b : Int)] Q := Fin.to (c := .rule a b c) q (by
    rw [Uw82.step, if_neg (by omega)]
    rfl)
  obtain ⟨r0, x1, x2, x3⟩ := rows_read R ha hb
  obtain ⟨ra, a1, a2, a3, a4, a5⟩ := set_rows R (UM.rows_at ha) (b := b) (by rw [UM.row_len]; exact hb)
  have R3 := a5 c
  obtain ⟨row, hrow, hlt⟩ := setAt_row (r := s.rule) (c := c) ha hb
  obtain ⟨rb, b1, b2, b3, b4, b5⟩ := set_rows R3 hrow hlt
  have R4 := b5 c
  rw [UM.rows_set G.r ha hb] at R4
  have npa : p ≠ ra := ne_of h1 a2 (by intro z; cases z)
  have h1a : (upd H ra (.lst ((iv (rowOf s.rule a)).set b (.int (c : Int))))) p = some (.ins C dx (uf po pb)) := by rw [upd_ne npa]; exact h1
  have npb : p ≠ rb := ne_of h1a b2 (by intro z; cases z)
  refine ⟨_, rfl, p, C, dx, _, _, rfl, h1, T.cl, T.nO, uf_o po pb, _, rfl, po, _, _, _, rfl, rfl, SqL.of R.lst, x1, _, rfl, r0, _, _, _, rfl, rfl, SqL.of x2, x3, ?_⟩
  refine ⟨_, rfl, _, rfl, p, C, dx, _, _, rfl, h1, T.cl, T.nO, uf_o po pb, _, rfl, po, _, _, _, rfl, rfl, SqL.of R.lst, a1, _, rfl, ra, _, _, _, rfl, rfl, a2, a3, ?_⟩
  refine ⟨_, rfl, _, rfl, p, C, dx, _, _, rfl, h1a, T.cl, T.nO, uf_o po pb, _, rfl, po, _, _, _, rfl, rfl, SqL.of R3.lst, b1, _, rfl, rb, _, _, _, rfl, rfl, b2, b3, ?_⟩
  refine ⟨_, rfl, one_line, fun l hl => ?_⟩
  have ka : pb ≠ ra := fun e => h3 (by rw [e]; exact a4)
  have kb : pb ≠ rb := fun e => h3 (by rw [e]; exact b4)
  have sm := same_new hl (.lst [.int (Uw82.comesOf s.rule a b : Nat)])
  have hl0 : H l = none := by
    cases z : H l with
    | none => rfl
    | some o =>
      exfalso
      by_cases e : l = rb
      · rw [e, upd_same] at hl
        cases hl
      · rw [upd_ne e] at hl
        by_cases e2 : l = ra
        · rw [e2, upd_same] at hl
          cases hl
        · rw [upd_ne e2, z] at hl
          cases hl
  refine q2 _ l (p :: po :: pb :: as) (UrnAt.same ⟨dx, po, pb, as, rfl, by rw [upd_ne npb]; exact h1a, R4, by rw [upd_ne kb, upd_ne ka]; exact h2, h3⟩ sm) (fun d o e hd => sm _ _ ?_) (fun d hd => .inl hd) hl0 upd_same
  have hd1 : d ∉ as := fun z => hd (by simp [z])
  rw [upd_ne (fun z => hd1 (by rw [z]; exact b4)), upd_ne (fun z => hd1 (by rw [z]; exact a4))]
  exact e
/-! ### urn -/
def spUrn (K : PySem.W.Frag) (C : Addr) : Sp := fun vs H Q _ => ∃ (p nl : Addr) (own : List Addr) (s : Uw82.St) (args : List Nat), vs = [.ref p, .ref nl] ∧ UrnAt C H p own s ∧ GoodS s ∧ SqL K H nl (iv args) ∧ Fin C H p own (Uw82.step s (.urn args)).1 (Uw82.step s (.urn args)).2 Q
theorem scUrn : FnScope ["self", "balls"] ["self", "balls"] (defScope sUrn) := ⟨rfl, rfl, rfl, by decide +kernel, rfl, by decide +kernel, by decide +kernel⟩
theorem ok_urn {f C : Addr} {fd : FuncData} (F : Fun K "urn" "Urn.urn" sUrn f fd) (T : Txt K mg C) (B : Bt mg) (N : Cs mg) : FnOk P w K mg base CX0 1 f fd ["self", "balls"] (spUrn K C) := by
  refine F.ok scUrn (fun vs H Q E h => ?_) (fun cdv A outer s0 H vs Q E hr h => ?_)
  · obtain ⟨p, nl, own, s, args, rfl, _⟩ := h
    rfl
  · obtain ⟨p, nl, own, s, args, rfl, U, G, hS, q⟩ := h
    obtain ⟨dx, po, pb, as, rfl, h1, R, h2, h3⟩ := U.ex
    have hk := G.len
    have hS2 : SqL K H nl ((Uw82.ints args).map V.int) := by rw [← iv_ints]; exact hS
    refine ⟨_, pss_cons (ps_if (PW.pt (pw_or (pt_cmpR op_ne (pe_callB call_len_seq rfl B.len bl_len (pa_cons (pv 1) pa_nil)) (pe_callB call_len_seq rfl B.len bl_len (pa_cons (pe_fld (pv 0) rfl) pa_nil)) (nomark _))
        (pw_or1 (pt_cmpR op_gt (pe_callB (cr_sum rfl) rfl B.sum bl_sum (pa_cons (pv 1) pa_nil)) (pe_num N.balls rfl) (nomark _)))))
        (pss_one (ps_ret (pe_lst (pa_cons (pe_un un_neg pe_int) pa_nil)))) pss_nil)
      (pss_cons (ps_fld (pv 0) (pe_callTy call_list_of rfl B.list bl_list (pa_cons (pv 1) pa_nil)) rfl)
      (pss_one (ps_ret (pe_lst (pa_cons (pe_callB (cr_sum rfl) rfl B.sum bl_sum (pa_cons (pv 1) pa_nil)) pa_nil))))), ?_⟩
    have no : (args.length ≠ s.rule.k ∨ 8 < Uw82.total args) → ∀ l, H l = none → Q (.ref l) (upd H l (.lst [.int (-1)])) := fun h => (Fin.to (c := .urn args) q (by rw [Uw82.step, if_pos h])).one U
    refine ⟨_, rfl, nl, _, rfl, .inl hS, _, rfl, p, C, dx, _, _, rfl, h1, T.cl, T.nB, uf_b po pb, pb, _, rfl, .inl (SqL.of h2), rfl, _, rfl, ite2 (fun h => iteT ⟨_, rfl, one_line, no ?_⟩) (fun h => ?_)⟩
    · refine .inl fun e => ?_
      rw [iv_len, iv_len, hk, e] at h
      simp at h
    · have e1 : args.length = s.rule.k := by
        rw [iv_len, iv_len, hk] at h
        have h' : V.int (args.length : Int) = V.int (s.rule.k : Int) := by
          rcases Decidable.em (V.int (args.length : Int) = V.int (s.rule.k : Int)) with z | z
          · exact z
          · exact absurd (by rw [decide_eq_false z]; rfl) h
        have := V.int.inj h'
        omega
      refine ⟨_, rfl, nl, Uw82.ints args, rfl, hS2, _, _, rfl, rfl, _, rfl, ite2 (fun h => ⟨_, rfl, one_line, no ?_⟩) (fun h => ?_)⟩
      · have h := of_decide_eq_true h
        rw [ints_sum] at h
        exact .inr (by omega)
      · have e2 : Uw82.total args ≤ 8 := by
          rcases Nat.lt_or_ge 8 (Uw82.total args) with z | z
          · exact absurd (decide_eq_true (show (8 : Int) < (Uw82.ints args).sum by rw [ints_sum]; omega)) h
          · exact z
        have q2 : Fin C H p (p :: po :: pb :: as) { s with urn := args } [(Uw82.total args : Int)] Q := Fin.to (c := .urn args) q (by
          rw [Uw82.step, if_neg (by omega)])
        refine ⟨_, rfl, nl, _, rfl, .inl hS, fun l hl => ?_⟩
        have npl : p ≠ l := ne_of_none h1 hl
        refine ⟨_, rfl, p, C, dx, _, rfl, by rw [upd_ne npl]; exact h1, T.cl, T.nB, (by show 2 < 1000; decide), ?_⟩
        rw [uf_putb]
        have kp : ∀ b o, H b = some o → b ≠ p → (upd (upd H l (.lst (iv args))) p (.ins C dx (uf po l))) b = some o := fun b o e hb => by
          rw [upd_ne hb, upd_ne (ne_of_none e hl)]
          exact e
        refine ⟨_, rfl, nl, Uw82.ints args, rfl, seq_but hS2 h1 kp, one_line, fun l2 hl2 => ?_⟩
        have e3 : [V.int (Uw82.ints args).sum] = [V.int (Uw82.total args : Int)] := by rw [ints_sum]
        rw [e3]
        have sm := same_new hl2 (.lst [V.int (Uw82.total args : Int)])
        have hl20 : H l2 = none := by
          cases z : H l2 with
          | none => rfl
          | some o =>
            exfalso
            by_cases e : l2 = p
            · rw [e, upd_same] at hl2
              cases hl2
            · rw [kp l2 o z e] at hl2
              cases hl2
        have nla : l ∉ as := fun m => by
          obtain ⟨j, hj⟩ := List.getElem?_of_mem m
          obtain ⟨row, _, e⟩ := R.at_ j l hj
          rw [hl] at e
          cases e
        refine q2 _ l2 (p :: po :: l :: as) (UrnAt.same ⟨dx, po, l, as, rfl, upd_same, R.keep fun b o hb e => kp b o e ?_, by rw [upd_ne npl.symm, upd_same], nla⟩ sm) (fun b o e hb => sm _ _ (kp b o e fun z => hb (by simp [z]))) (fun b hb => ?_) hl20 upd_same
        · rcases hb with rfl | hb
          · exact ne_of R.lst h1 (by intro z; cases z)
          · obtain ⟨j, hj⟩ := List.getElem?_of_mem hb
            obtain ⟨row, _, e'⟩ := R.at_ j b hj
            exact ne_of e' h1 (by intro z; cases z)
        · rcases List.mem_cons.mp hb with rfl | hb
          · exact .inl (by simp)
          · rcases List.mem_cons.mp hb with rfl | hb
            · exact .inl (by simp)
            · rcases List.mem_cons.mp hb with rfl | hb
              · exact .inr hl
              · exact .inl (by simp [hb])
end
end U

end
section
set_option Elab.async false
set_option linter.all false
set_option maxRecDepth 100000
set_option maxHeartbeats 4000000
/-! The urn's other methods. -/
namespace U
open PySem PySem.Spec PyProof.Rows L2
open UM (Ways wput wdraw1 wdraws wblind wblinds wsum ukeys rowsOf rowOf setRule setAt GoodR GoodS tpre)
section
variable {P : Program} {w : World} {K : PySem.W.Frag} {mg : Str → Option Value} {base : Heap}
/-! ### draw -/
theorem scDraw : FnScope ["self", "a", "b"] ["self", "a", "b"] (defScope sDraw) := ⟨rfl, rfl, rfl, by decide +kernel, rfl, by decide +kernel, by decide +kernel⟩
theorem ok_draw {f C : Addr} {fd : FuncData} (F : Fun K "draw" "Urn.draw" sDraw f fd) (T : Txt K mg C) (GH : HasM P w K mg base C "has_colour" 1 ["self", "colour"] (spHas C)) (GW : Has P w K mg base "ways_to_draw" 1 ["balls", "a", "b"] (spWays K))
    (GD : Has P w K mg base "drawn" 1 ["outcomes", "balls", "a", "b"] (spDrawn K)) : FnOk P w K mg base CX0 2 f fd ["self", "a", "b"] (spCall C 2 fun xs => .draw (xs.getD 0 0) (xs.getD 1 0)) := by
  refine F.ok scDraw (fun vs H Q E h => spCall.len h) (fun cdv A outer s0 H vs Q E hr h => ?_)
  obtain ⟨p, own, s, xs, rfl, hn, U, G, q⟩ := h
  obtain ⟨a, b, rfl⟩ := two_of hn
  obtain ⟨dx, po, pb, as, rfl, h1, R, h2, h3⟩ := U.ex
  have hk := G.len
  have k4 := G.r.k4
  have hno : (uf po pb).lookup ("has_colour" : Str) = none := uf_no po pb (by decide +kernel) (by decide +kernel)
  refine ⟨_, pss_cons (ps_if (pt_not (PW.pt (pw_and (pt_val (pe_hasM GH T.cl hr (pv 0) (pa_cons (pv 1) pa_nil))) (pw_and1 (pt_val (pe_hasM GH T.cl hr (pv 0) (pa_cons (pv 2) pa_nil)))))))
      (pss_one (ps_ret (pe_lst (pa_cons (pe_un un_neg pe_int) pa_nil)))) pss_nil)
    (pss_cons (ps_if (pt_cmpR op_eq (pe_has GW hr rfl (pa_cons (pe_fld (pv 0) rfl) (pa_cons (pv 1) (pa_cons (pv 2) pa_nil)))) pe_int (nomark _)) (pss_one (ps_ret (pe_lst (pa_cons (pe_un un_neg pe_int) pa_nil)))) pss_nil)
    (pss_cons (ps_fld (pv 0) (pe_has GD hr rfl (pa_cons (pe_fld (pv 0) rfl) (pa_cons (pe_fld (pv 0) rfl) (pa_cons (pv 1) (pa_cons (pv 2) pa_nil))))) rfl)
    (pss_one (ps_ret (pe_op op_cat (pe_lst (pa_cons (pe_ix ix_list (pe_ix ix_list (pe_fld (pv 0) rfl) (pv 1) (fun _ _ => rfl)) (pv 2) (fun _ _ => rfl)) pa_nil)) (pe_fld (pv 0) rfl)))))), ?_⟩
  have no : (s.rule.k ≤ a ∨ s.rule.k ≤ b) → ∀ l, H l = none → Q (.ref l) (upd H l (.lst [.int (-1)])) := fun h =>
    (Fin.to (c := .draw a b) q (by rw [Uw82.step, if_pos h])).one U
  refine ⟨_, rfl, p, dx, _, rfl, h1, hno, _, rfl, p, _, s, a, rfl, U, _, rfl, ite2 (fun ha => ?_) (fun ha => ⟨_, rfl, one_line, no (by have := of_decide_eq_false (Bool.not_eq_true _ ▸ ha); omega)⟩)⟩
  refine ⟨_, rfl, p, dx, _, rfl, h1, hno, _, rfl, p, _, s, b, rfl, U, _, rfl, ite2 (fun hc => ⟨_, rfl, one_line, no (by
    have := of_decide_eq_false (Bool.not_eq_true' _ ▸ hc)
    omega)⟩) (fun hc => ?_)⟩
  have ha : a < s.rule.k := by
    have := of_decide_eq_true ha
    omega
  have hb : b < s.rule.k := by
    rcases Nat.lt_or_ge b s.rule.k with z | z
    · exact z
    · exact absurd (by rw [decide_eq_false (by omega)]; rfl) hc
  have la : a < s.urn.length := by omega
  have lb : b < s.urn.length := by omega
  refine ⟨_, rfl, p, C, dx, _, _, rfl, h1, T.cl, T.nB, uf_b po pb, _, rfl, _, rfl, pb, s.urn, a, b, rfl, .inl (SqL.of h2), la, lb, G.few, rfl, _, rfl, ite2 (fun h => ?_) (fun h => ?_)⟩
  · have e0 : Uw82.pairs s.urn a b = 0 := by
      have := V.int.inj (of_decide_eq_true h)
      omega
    have hth := (UM.pairs_pos la lb).mp e0
    exact ⟨_, rfl, one_line, (Fin.to (c := .draw a b) q (by rw [Uw82.step, if_neg (by omega), if_pos hth])).one U⟩
  · have e0 : ¬ Uw82.pairs s.urn a b = 0 := fun e => h (decide_eq_true (by rw [e]; rfl))
    have hth : Uw82.areThere s.urn a b = true := by
      cases z : Uw82.areThere s.urn a b with
      | true => rfl
      | false => exact absurd ((UM.pairs_pos la lb).mpr z) e0
    have q2 : Fin C H p (p :: po :: pb :: as) { s with urn := Uw82.drawn s.rule s.urn a b } ((Uw82.comesOf s.rule a b : Int) :: Uw82.ints (Uw82.drawn s.rule s.urn a b)) Q := Fin.to (c := .draw a b) q (by
      rw [Uw82.step, if_neg (by omega), if_neg (by rw [hth]; simp)])
    refine ⟨_, rfl, p, C, dx, _, _, rfl, h1, T.cl, T.nO, uf_o po pb, _, rfl, p, C, dx, _, _, rfl, h1, T.cl, T.nB, uf_b po pb, _, rfl, _, rfl, po, pb, as, s.rule, s.urn, a, b, rfl, G.r, R, .inl (SqL.of h2), hk, ha, hb, hth, fun l hl => ?_⟩
    have npl : p ≠ l := ne_of_none h1 hl
    refine ⟨_, rfl, p, C, dx, _, rfl, by rw [upd_ne npl]; exact h1, T.cl, T.nB, (by show 2 < 1000; decide), ?_⟩
    rw [uf_putb]
    have kp : ∀ b' o, H b' = some o → b' ≠ p → (upd (upd H l (.lst (iv (Uw82.drawn s.rule s.urn a b)))) p (.ins C dx (uf po l))) b' = some o := fun b' o e hb => by
      rw [upd_ne hb, upd_ne (ne_of_none e hl)]
      exact e
    have R2 : RowsA (upd (upd H l (.lst (iv (Uw82.drawn s.rule s.urn a b)))) p (.ins C dx (uf po l))) po as (rowsOf s.rule) := R.keep fun b o hb e => kp b o e (by
      rcases hb with rfl | hb
      · exact ne_of R.lst h1 (by intro z; cases z)
      · obtain ⟨j, hj⟩ := List.getElem?_of_mem hb
        obtain ⟨row, _, e'⟩ := R.at_ j b hj
        exact ne_of e' h1 (by intro z; cases z))
    have hl2 : (upd (upd H l (.lst (iv (Uw82.drawn s.rule s.urn a b)))) p (.ins C dx (uf po l))) l = some (.lst (iv (Uw82.drawn s.rule s.urn a b))) := by rw [upd_ne npl.symm, upd_same]
    obtain ⟨r0, x1, x2, x3⟩ := rows_read R2 ha hb
    refine ⟨_, rfl, p, C, dx, _, _, rfl, upd_same, T.cl, T.nO, uf_o po l, _, rfl, po, _, _, _, rfl, rfl, SqL.of R2.lst, x1, _, rfl, r0, _, _, _, rfl, rfl, SqL.of x2, x3, one_line, fun m hm => ?_⟩
    have s1 := same_new hm (.lst [V.int (Uw82.comesOf s.rule a b : Nat)])
    refine ⟨_, rfl, p, C, dx, _, _, rfl, s1 _ _ upd_same, T.cl, T.nB, uf_b po l, m, l, _, _, rfl, rfl, upd_same, s1 _ _ hl2, ?_, fun e he => ?_⟩
    · rw [iv_len, UM.drawn_len, hk]
      have := sizeLine_eq
      show 1 + s.rule.k ≤ sizeLine
      omega
    · have s2 := Same.upd s1 (.inr he) (.lst ([V.int (Uw82.comesOf s.rule a b : Nat)] ++ iv (Uw82.drawn s.rule s.urn a b)))
      have he1 := s1.free he
      have he0 : H e = none := by
        cases z : H e with
        | none => rfl
        | some o =>
          exfalso
          by_cases ee : e = p
          · rw [ee, upd_same] at he1
            cases he1
          · rw [kp e o z ee] at he1
            cases he1
      have nla : l ∉ as := fun m => by
        obtain ⟨j, hj⟩ := List.getElem?_of_mem m
        obtain ⟨row, _, e⟩ := R.at_ j l hj
        rw [hl] at e
        cases e
      refine q2 _ e (p :: po :: l :: as) (UrnAt.same ⟨dx, po, l, as, rfl, upd_same, R2, hl2, nla⟩ s2) (fun b o e hb => s2 _ _ (kp b o e fun z => hb (by simp [z]))) (fun b hb => ?_) he0 ?_
      · rcases List.mem_cons.mp hb with rfl | hb
        · exact .inl (by simp)
        · rcases List.mem_cons.mp hb with rfl | hb
          · exact .inl (by simp)
          · rcases List.mem_cons.mp hb with rfl | hb
            · exact .inr hl
            · exact .inl (by simp [hb])
      · rw [upd_same, iv_ints]
        rfl
/-! ### lasts, sure -/
theorem scLasts : FnScope ["self", "colours"] ["self"] (defScope sLasts) := ⟨rfl, rfl, rfl, by decide +kernel, rfl, by decide +kernel, by decide +kernel⟩
theorem ok_lasts {f C : Addr} {fd : FuncData} (F : Fun K "lasts" "Urn.lasts" sLasts f fd) (T : Txt K mg C) (B : Bt mg) (GL : Has P w K mg base "last_colours" 5 ["outcomes", "balls"] (spLast K)) : FnOk P w K mg base CX0 6 f fd ["self"] (spCall C 0 fun _ => .lasts) := by
  refine F.ok scLasts (fun vs H Q E h => spCall.len h) (fun cdv A outer s0 H vs Q E hr h => ?_)
  obtain ⟨p, own, s, xs, rfl, hn, U, G, q⟩ := h
  obtain rfl := none_of hn
  obtain ⟨dx, po, pb, as, rfl, h1, R, h2, h3⟩ := U.ex
  have k4 := G.r.k4
  refine ⟨_, pss_cons (ps_if (pt_cmpR op_eq (pe_callB (cr_sum rfl) rfl B.sum bl_sum (pa_cons (pe_fld (pv 0) rfl) pa_nil)) pe_int (nomark _)) (pss_one (ps_ret (pe_lst (pa_cons (pe_un un_neg pe_int) pa_nil)))) pss_nil)
    (pss_cons (ps_set (i := 1) scLasts.nd rfl (Or.inl rfl) (pe_has GL hr rfl (pa_cons (pe_fld (pv 0) rfl) (pa_cons (pe_fld (pv 0) rfl) pa_nil))))
    (pss_one (ps_ret (pe_op op_cat (pe_lst (pa_cons (pe_callB call_len_seq rfl B.len bl_len (pa_cons (pv 1) pa_nil)) pa_nil)) (pv 1))))), ?_⟩
  refine ⟨_, rfl, p, C, dx, _, _, rfl, h1, T.cl, T.nB, uf_b po pb, pb, Uw82.ints s.urn, rfl, SqL.of (by rw [← iv_ints]; exact h2), rfl, _, rfl, ite2 (fun h => ?_) (fun h => ?_)⟩
  · have e0 : Uw82.total s.urn = 0 := by
      have := V.int.inj (of_decide_eq_true h)
      rw [ints_sum] at this
      omega
    exact ⟨_, rfl, one_line, (Fin.to (c := .lasts) q (by rw [Uw82.step, Uw82.onUrn, if_pos e0])).one U⟩
  · have e0 : ¬ Uw82.total s.urn = 0 := fun e => h (decide_eq_true (by rw [ints_sum, e]; rfl))
    have q2 : Fin C H p (p :: po :: pb :: as) s (Uw82.counted (Uw82.lasts s.rule s.urn)) Q := Fin.to (c := .lasts) q (by rw [Uw82.step, Uw82.onUrn, if_neg e0])
    refine ⟨_, rfl, p, C, dx, _, _, rfl, h1, T.cl, T.nO, uf_o po pb, _, rfl, p, C, dx, _, _, rfl, h1, T.cl, T.nB, uf_b po pb, po, pb, as, s.rule, s.urn, rfl, G.r, R, SqL.of h2, G.len, G.few, by omega, fun H1 c s1 hc0 hc => ?_⟩
    refine ⟨_, rfl, c, _, rfl, .inl (SqL.of hc), one_line, fun m hm => ?_⟩
    have s2 := same_new hm (.lst [V.int ((iv (Uw82.lasts s.rule s.urn)).length : Int)])
    have hlen := UM.lasts_len s.rule s.urn
    refine ⟨_, rfl, m, c, _, _, rfl, rfl, upd_same, s2 _ _ hc, ?_, fun e he => ?_⟩
    · rw [iv_len]
      have := sizeLine_eq
      show 1 + (Uw82.lasts s.rule s.urn).length ≤ sizeLine
      omega
    · have s3 := Same.upd (s1.trans s2) (.inr he) (.lst ([V.int ((iv (Uw82.lasts s.rule s.urn)).length : Int)] ++ iv (Uw82.lasts s.rule s.urn)))
      refine q2.read U s3 ((s1.trans s2).free he) ?_
      rw [upd_same, iv_len, iv_ints]
      rfl
theorem scSure : FnScope ["self", "colours"] ["self"] (defScope sSure) := ⟨rfl, rfl, rfl, by decide +kernel, rfl, by decide +kernel, by decide +kernel⟩
theorem ok_sure {f C : Addr} {fd : FuncData} (F : Fun K "sure" "Urn.sure" sSure f fd) (T : Txt K mg C) (B : Bt mg) (GL : Has P w K mg base "last_colours" 5 ["outcomes", "balls"] (spLast K)) : FnOk P w K mg base CX0 6 f fd ["self"] (spCall C 0 fun _ => .sure) := by
  refine F.ok scSure (fun vs H Q E h => spCall.len h) (fun cdv A outer s0 H vs Q E hr h => ?_)
  obtain ⟨p, own, s, xs, rfl, hn, U, G, q⟩ := h
  obtain rfl := none_of hn
  obtain ⟨dx, po, pb, as, rfl, h1, R, h2, h3⟩ := U.ex
  refine ⟨_, pss_cons (ps_if (pt_cmpR op_eq (pe_callB (cr_sum rfl) rfl B.sum bl_sum (pa_cons (pe_fld (pv 0) rfl) pa_nil)) pe_int (nomark _)) (pss_one (ps_ret (pe_lst (pa_cons (pe_un un_neg pe_int) pa_nil)))) pss_nil)
    (pss_cons (ps_set (i := 1) scSure.nd rfl (Or.inl rfl) (pe_has GL hr rfl (pa_cons (pe_fld (pv 0) rfl) (pa_cons (pe_fld (pv 0) rfl) pa_nil))))
    (pss_cons (ps_if (pt_cmpR op_eq (pe_callB call_len_seq rfl B.len bl_len (pa_cons (pv 1) pa_nil)) pe_int (nomark _)) (pss_one (ps_ret (pe_lst (pa_cons pe_int (pa_cons (pe_ix ix_list (pv 1) pe_int (fun _ _ => rfl)) pa_nil))))) pss_nil)
    (pss_one (ps_ret (pe_lst (pa_cons pe_int pa_nil)))))), ?_⟩
  refine ⟨_, rfl, p, C, dx, _, _, rfl, h1, T.cl, T.nB, uf_b po pb, pb, Uw82.ints s.urn, rfl, SqL.of (by rw [← iv_ints]; exact h2), rfl, _, rfl, ite2 (fun h => ?_) (fun h => ?_)⟩
  · have e0 : Uw82.total s.urn = 0 := by
      have := V.int.inj (of_decide_eq_true h)
      rw [ints_sum] at this
      omega
    exact ⟨_, rfl, one_line, (Fin.to (c := .sure) q (by rw [Uw82.step, Uw82.onUrn, if_pos e0])).one U⟩
  · have e0 : ¬ Uw82.total s.urn = 0 := fun e => h (decide_eq_true (by rw [ints_sum, e]; rfl))
    have q2 : Fin C H p (p :: po :: pb :: as) s (match Uw82.lasts s.rule s.urn with | [c] => Uw82.ints [1, c] | _ => [0]) Q := Fin.to (c := .sure) q (by rw [Uw82.step, Uw82.onUrn, if_neg e0]; rfl)
    refine ⟨_, rfl, p, C, dx, _, _, rfl, h1, T.cl, T.nO, uf_o po pb, _, rfl, p, C, dx, _, _, rfl, h1, T.cl, T.nB, uf_b po pb, po, pb, as, s.rule, s.urn, rfl, G.r, R, SqL.of h2, G.len, G.few, by omega, fun H1 c s1 hc0 hc => ?_⟩
    refine ⟨_, rfl, c, _, rfl, .inl (SqL.of hc), rfl, _, rfl, ite2 (fun h => ?_) (fun h => ?_)⟩
    · have e1 : (Uw82.lasts s.rule s.urn).length = 1 := by
        have := V.int.inj (of_decide_eq_true h)
        rw [iv_len] at this
        omega
      obtain ⟨x, hx⟩ := one_of e1
      rw [hx] at q2 hc
      refine ⟨_, rfl, c, _, _, _, rfl, rfl, SqL.of hc, atI_nat (j := 0) rfl, (by show 2 ≤ sizeLine; decide), fun m hm => ?_⟩
      exact q2.read U (Same.upd s1 (.inr hm) _) (s1.free hm) upd_same
    · have e1 : ¬ (Uw82.lasts s.rule s.urn).length = 1 := fun e => h (decide_eq_true (by rw [iv_len, e]; rfl))
      refine ⟨one_line, fun m hm => ?_⟩
      have q3 : Fin C H p (p :: po :: pb :: as) s [0] Q := by
        revert q2
        split
        · rename_i z
          rw [z] at e1
          exact absurd rfl e1
        · exact fun z => z
      exact q3.read U (Same.upd s1 (.inr hm) _) (s1.free hm) upd_same
/-! ### comes -/
theorem scComes : FnScope ["self"] ["self"] (defScope sComes) := ⟨rfl, rfl, rfl, by decide +kernel, rfl, by decide +kernel, by decide +kernel⟩
theorem ok_comes {f C : Addr} {fd : FuncData} (F : Fun K "comes" "Urn.comes" sComes f fd) (T : Txt K mg C) (GC : Has P w K mg base "count_urns" 4 ["outcomes", "balls"] (spCount K)) : FnOk P w K mg base CX0 5 f fd ["self"] (spCall C 0 fun _ => .comes) := by
  refine F.ok scComes (fun vs H Q E h => spCall.len h) (fun cdv A outer s0 H vs Q E hr h => ?_)
  obtain ⟨p, own, s, xs, rfl, hn, U, G, q⟩ := h
  obtain rfl := none_of hn
  obtain ⟨dx, po, pb, as, rfl, h1, R, h2, h3⟩ := U.ex
  refine ⟨_, pss_one (ps_ret (pe_lst (pa_cons (pe_has GC hr rfl (pa_cons (pe_fld (pv 0) rfl) (pa_cons (pe_fld (pv 0) rfl) pa_nil))) pa_nil))), ?_⟩
  refine ⟨_, rfl, p, C, dx, _, _, rfl, h1, T.cl, T.nO, uf_o po pb, _, rfl, p, C, dx, _, _, rfl, h1, T.cl, T.nB, uf_b po pb, po, pb, as, s.rule, s.urn, rfl, G.r, R, SqL.of h2, G.len, G.few, fun H1 s1 => ⟨one_line, fun m hm => ?_⟩⟩
  have q2 : Fin C H p (p :: po :: pb :: as) s [(Uw82.comes s.rule s.urn : Int)] Q := Fin.to (c := .comes) q (by rw [Uw82.step])
  exact q2.read U (Same.upd s1 (.inr hm) _) (s1.free hm) upd_same
/-! ### chances, average -/
theorem fv_told (f : Uw82.Frac) : fv f = (Uw82.told f).map V.int := rfl
theorem avg_pre {r : Uw82.Rule} {s : List Nat} (G : GoodR r) (hl : s.length = r.k) (h8 : Uw82.total s ≤ 8) {n c : Nat} (hn : n < Uw82.total s) (hc : c < r.k) :
    (ukeys (wblinds r n [(s, 1)])).Nodup ∧ (∀ t ∈ ukeys (wblinds r n [(s, 1)]), c < t.length ∧ t.getD c 0 ≤ 8) ∧ 0 < wsum (wblinds r n [(s, 1)]) ∧ wsum (wblinds r n [(s, 1)]) < 1073741824 ∧ (wblinds r n [(s, 1)]).length < sizeLine := by
  obtain ⟨_, ok⟩ := UM.blinds_start G hl (j := n) hn
  refine ⟨ok.nd, fun t ht => ?_, ok.pos, ?_, ?_⟩
  · obtain ⟨h1, h2⟩ := ok.all t ht
    have := UM.getD_le_total t c
    exact ⟨by omega, by omega⟩
  · rw [UM.wsum_blinds G hl n hn]
    have := UM.dens_small h8 hn
    omega
  · have h1 := UM.wblinds_len G s n
    have h2 := UM.ten_small (j := n) (by omega)
    have h3 := sizeLine_eq
    omega
theorem scChances : FnScope ["self", "urns", "told", "colour"] ["self"] (defScope sChances) := ⟨rfl, rfl, rfl, by decide +kernel, rfl, by decide +kernel, by decide +kernel⟩
theorem ok_chances {f C : Addr} {fd : FuncData} (F : Fun K "chances" "Urn.chances" sChances f fd) (T : Txt K mg C) (B : Bt mg) (GD : Has P w K mg base "after_draws" 4 ["outcomes", "balls", "draws"] (spDraws K)) (GA : Has P w K mg base "average_of" 3 ["urns", "colour"] spAvg) :
    FnOk P w K mg base CX0 5 f fd ["self"] (spCall C 0 fun _ => .chances) := by
  refine F.ok scChances (fun vs H Q E h => spCall.len h) (fun cdv A outer s0 H vs Q E hr h => ?_)
  obtain ⟨p, own, s, xs, rfl, hn, U, G, q⟩ := h
  obtain rfl := none_of hn
  obtain ⟨dx, po, pb, as, rfl, h1, R, h2, h3⟩ := U.ex
  have k4 := G.r.k4
  have hsl := sizeLine_eq
  have hI : SqL K H pb ((Uw82.ints s.urn).map V.int) := SqL.of (by rw [← iv_ints]; exact h2)
  refine ⟨_, pss_cons (ps_if (pt_cmpR op_eq (pe_callB (cr_sum rfl) rfl B.sum bl_sum (pa_cons (pe_fld (pv 0) rfl) pa_nil)) pe_int (nomark _)) (pss_one (ps_ret (pe_lst (pa_cons (pe_un un_neg pe_int) pa_nil)))) pss_nil)
    (pss_cons (ps_set (i := 1) scChances.nd rfl (Or.inl rfl) (pe_has GD hr rfl (pa_cons (pe_fld (pv 0) rfl) (pa_cons (pe_fld (pv 0) rfl) (pa_cons (pe_op op_sub (pe_callB (cr_sum rfl) rfl B.sum bl_sum (pa_cons (pe_fld (pv 0) rfl) pa_nil)) pe_int) pa_nil)))))
    (pss_cons (ps_set (i := 2) scChances.nd rfl (Or.inl rfl) (pe_lst (pa_cons pe_int pa_nil)))
    (pss_cons (ps_for PassesOwn.never rfl (pi_range1 rfl B.range (pa_cons (pe_callB call_len_seq rfl B.len bl_len (pa_cons (pe_fld (pv 0) rfl) pa_nil)) pa_nil)) (pg_name (i := 3) scChances.nd rfl (Or.inl rfl))
      (pss_one (ps_expr (pe_bm PySem.F.plainAttrs_list PySem.F.slot_list_extend PySem.F.type_list_extend mt_extend (pv 2) (pa_cons (pe_has GA (hr.mono (by decide)) rfl (pa_cons (pv 1) (pa_cons (pv 3) pa_nil))) pa_nil)))))
    (pss_one (ps_ret (pv 2)))))), ?_⟩
  refine ⟨_, rfl, p, C, dx, _, _, rfl, h1, T.cl, T.nB, uf_b po pb, pb, Uw82.ints s.urn, rfl, hI, rfl, _, rfl, ite2 (fun h => ?_) (fun h => ?_)⟩
  · have e0 : Uw82.total s.urn = 0 := by
      have := V.int.inj (of_decide_eq_true h)
      rw [ints_sum] at this
      omega
    exact ⟨_, rfl, one_line, (Fin.to (c := .chances) q (by rw [Uw82.step, Uw82.onUrn, if_pos e0])).one U⟩
  · have e0 : ¬ Uw82.total s.urn = 0 := fun e => h (decide_eq_true (by rw [ints_sum, e]; rfl))
    have q2 : Fin C H p (p :: po :: pb :: as) s (0 :: (List.range s.rule.k).flatMap fun c => Uw82.told ((Uw82.blinds s.rule (Uw82.total s.urn - 1) [(s.urn, ⟨1, 1⟩)]).foldl (fun a x => if x.1.getD c 0 = 1 then Uw82.plus a x.2 else a) ⟨0, 1⟩)) Q := Fin.to (c := .chances) q (by rw [Uw82.step, Uw82.onUrn, if_neg e0])
    have ef : ∀ c, (Uw82.blinds s.rule (Uw82.total s.urn - 1) [(s.urn, ⟨1, 1⟩)]).foldl (fun a x => if x.1.getD c 0 = 1 then Uw82.plus a x.2 else a) ⟨0, 1⟩ = Uw82.frac (UM.wav c (wblinds s.rule (Uw82.total s.urn - 1) [(s.urn, 1)])) (wsum (wblinds s.rule (Uw82.total s.urn - 1) [(s.urn, 1)])) := fun c => UM.chance_eq G.r G.len (by omega)
    simp only [ef] at q2
    have pre := fun c (hc : c < s.rule.k) => avg_pre (c := c) G.r G.len G.few (n := Uw82.total s.urn - 1) (by omega) hc
    refine ⟨_, rfl, p, C, dx, _, _, rfl, h1, T.cl, T.nO, uf_o po pb, _, rfl, p, C, dx, _, _, rfl, h1, T.cl, T.nB, uf_b po pb, _, rfl, p, C, dx, _, _, rfl, h1, T.cl, T.nB, uf_b po pb, pb, Uw82.ints s.urn, rfl, hI, _, _, rfl, rfl,
      po, pb, as, s.rule, s.urn, Uw82.total s.urn - 1, ?_, G.r, R, SqL.of h2, G.len, G.few, by omega, fun H1 d s1 hd0 hd => ?_⟩
    · have e : (Uw82.ints s.urn).sum - 1 = ((Uw82.total s.urn - 1 : Nat) : Int) := by
        rw [ints_sum]
        omega
      show [V.ref po, V.ref pb, V.int ((Uw82.ints s.urn).sum - 1)] = _
      rw [e]
    · generalize wblinds s.rule (Uw82.total s.urn - 1) [(s.urn, 1)] = l at *
      refine ⟨one_line, fun t ht => ?_⟩
      have s2 := Same.upd s1 (.inr ht) (.lst [V.int 0])
      have ht0 := s1.free ht
      refine ⟨_, rfl, p, C, dx, _, _, rfl, s2 _ _ h1, T.cl, T.nB, uf_b po pb, pb, _, rfl, .inl (SqL.of (s2 _ _ h2)), ((iv s.urn).length : Int), rfl, by omega, by rw [iv_len, G.len]; omega, ?_⟩
      rw [show ((iv s.urn).length : Int).toNat = s.rule.k by rw [iv_len, G.len]; rfl]
      refine for_range (lo := 0) (n := s.rule.k) (fun i σ H' => ∃ v : Option V, σ = [some (.ref p), some (.ref d), some (.ref t), v] ∧ Same H H' ∧ H' d = some (.dT (wd l)) ∧ H' t = some (.lst ((0 :: (List.range i).flatMap fun c => Uw82.told (Uw82.frac (UM.wav c l) (wsum l))).map V.int)))
        ⟨none, rfl, s2, by rw [upd_ne (ne_of_none hd ht)]; exact hd, upd_same⟩ ?_ ?_
      · rintro i σ H2 hi ⟨v, rfl, s3, hd2, ht2⟩
        obtain ⟨g1, g2, g3, g4, g5⟩ := pre i hi
        refine ⟨_, rfl, .inl ⟨rfl, _, SqL.of ht2⟩, _, rfl, _, rfl, d, l, i, by rw [Int.zero_add]; rfl, hd2, g1, g2, g3, g4, g5, fun H3 u s4 hu0 hu => ?_⟩
        refine ⟨t, u, _, _, rfl, rfl, s4 _ _ ht2, hu, ?_, ?_⟩
        · rw [List.length_map, List.length_cons, UM.flat_two, List.length_range]
          show 2 * i + 1 + 2 ≤ sizeLine
          omega
        · refine ⟨some (.int (0 + (i : Int))), rfl, Same.upd (s3.trans s4) (.inl ht0) _, ?_, ?_⟩
          · rw [upd_ne (ne_of hd2 ht2 (by intro z; cases z))]
            exact s4 _ _ hd2
          · rw [upd_same, fv_told, ← List.map_append, List.range_succ, List.flatMap_append, List.cons_append]
            simp
      · rintro σ H2 ⟨v, rfl, s3, hd2, ht2⟩
        exact ⟨_, rfl, q2.read U s3 ht0 ht2⟩
theorem scAverage : FnScope ["self", "left", "colour", "urns"] ["self", "left", "colour"] (defScope sAverage) := ⟨rfl, rfl, rfl, by decide +kernel, rfl, by decide +kernel, by decide +kernel⟩
theorem ok_average {f C : Addr} {fd : FuncData} (F : Fun K "average" "Urn.average" sAverage f fd) (T : Txt K mg C) (B : Bt mg) (GH : HasM P w K mg base C "has_colour" 1 ["self", "colour"] (spHas C)) (GD : Has P w K mg base "after_draws" 4 ["outcomes", "balls", "draws"] (spDraws K)) (GA : Has P w K mg base "average_of" 3 ["urns", "colour"] spAvg) :
    FnOk P w K mg base CX0 5 f fd ["self", "left", "colour"] (spCall C 2 fun xs => .average (xs.getD 0 0) (xs.getD 1 0)) := by
  refine F.ok scAverage (fun vs H Q E h => spCall.len h) (fun cdv A outer s0 H vs Q E hr h => ?_)
  obtain ⟨p, own, s, xs, rfl, hn, U, G, q⟩ := h
  obtain ⟨m, c, rfl⟩ := two_of hn
  obtain ⟨dx, po, pb, as, rfl, h1, R, h2, h3⟩ := U.ex
  have hk := G.len
  have hsl := sizeLine_eq
  have hno : (uf po pb).lookup ("has_colour" : Str) = none := uf_no po pb (by decide +kernel) (by decide +kernel)
  have hI : SqL K H pb ((Uw82.ints s.urn).map V.int) := SqL.of (by rw [← iv_ints]; exact h2)
  refine ⟨_, pss_cons (ps_if (pt_not (pt_val (pe_hasM GH T.cl (hr.mono (by decide)) (pv 0) (pa_cons (pv 2) pa_nil)))) (pss_one (ps_ret (pe_lst (pa_cons (pe_un un_neg pe_int) pa_nil)))) pss_nil)
    (pss_cons (ps_if (PW.pt (pw_or (pt_cmpR op_eq (pv 1) pe_int (nomark _)) (pw_or1 (pt_cmpR op_gt (pv 1) (pe_callB (cr_sum rfl) rfl B.sum bl_sum (pa_cons (pe_fld (pv 0) rfl) pa_nil)) (nomark _))))) (pss_one (ps_ret (pe_lst (pa_cons (pe_un un_neg pe_int) pa_nil)))) pss_nil)
    (pss_cons (ps_set (i := 3) scAverage.nd rfl (Or.inl rfl) (pe_has GD hr rfl (pa_cons (pe_fld (pv 0) rfl) (pa_cons (pe_fld (pv 0) rfl) (pa_cons (pe_op op_sub (pe_callB (cr_sum rfl) rfl B.sum bl_sum (pa_cons (pe_fld (pv 0) rfl) pa_nil)) (pv 1)) pa_nil)))))
    (pss_one (ps_ret (pe_op op_cat (pe_lst (pa_cons pe_int pa_nil)) (pe_has GA (hr.mono (by decide)) rfl (pa_cons (pv 3) (pa_cons (pv 2) pa_nil)))))))), ?_⟩
  refine ⟨_, rfl, p, dx, _, rfl, h1, hno, _, rfl, p, _, s, c, rfl, U, _, rfl, ite2 (fun hc => ⟨_, rfl, one_line, (Fin.to (c := .average m c) q (by
    have := of_decide_eq_false (Bool.not_eq_true' _ ▸ hc)
    rw [Uw82.step, if_pos (by omega)])).one U⟩) (fun hc => ?_)⟩
  have hc : c < s.rule.k := by
    rcases Nat.lt_or_ge c s.rule.k with z | z
    · exact z
    · exact absurd (by rw [decide_eq_false (by omega)]; rfl) hc
  have no : (m = 0 ∨ Uw82.total s.urn < m) → ∀ l, H l = none → Q (.ref l) (upd H l (.lst [.int (-2)])) := fun h =>
    (Fin.to (c := .average m c) q (by rw [Uw82.step, if_neg (by omega), if_pos h])).one U
  refine ⟨_, rfl, rfl, _, rfl, ite2 (fun h => iteT ⟨_, rfl, one_line, no (.inl (by
    have := V.int.inj (of_decide_eq_true h)
    omega))⟩) (fun h => ?_)⟩
  have m0 : ¬ m = 0 := fun e => h (decide_eq_true (by rw [e]; rfl))
  refine ⟨_, rfl, _, rfl, p, C, dx, _, _, rfl, h1, T.cl, T.nB, uf_b po pb, pb, Uw82.ints s.urn, rfl, hI, _, _, rfl, rfl, _, rfl, ite2 (fun h => ⟨_, rfl, one_line, no (.inr (by
    have := of_decide_eq_true h
    rw [ints_sum] at this
    omega))⟩) (fun h => ?_)⟩
  have m1 : m ≤ Uw82.total s.urn := by
    rcases Nat.lt_or_ge (Uw82.total s.urn) m with z | z
    · exact absurd (decide_eq_true (show (Uw82.ints s.urn).sum < (m : Int) by rw [ints_sum]; omega)) h
    · exact z
  have q2 : Fin C H p (p :: po :: pb :: as) s (0 :: Uw82.told (Uw82.average s.rule s.urn m c)) Q := Fin.to (c := .average m c) q (by rw [Uw82.step, if_neg (by omega), if_neg (by omega)])
  rw [UM.average_eq G.r G.len (by omega) m1] at q2
  obtain ⟨g1, g2, g3, g4, g5⟩ := avg_pre (c := c) G.r G.len G.few (n := Uw82.total s.urn - m) (by omega) hc
  refine ⟨_, rfl, p, C, dx, _, _, rfl, h1, T.cl, T.nO, uf_o po pb, _, rfl, p, C, dx, _, _, rfl, h1, T.cl, T.nB, uf_b po pb, _, rfl, p, C, dx, _, _, rfl, h1, T.cl, T.nB, uf_b po pb, pb, Uw82.ints s.urn, rfl, hI, _, rfl, _, _, rfl, rfl,
    po, pb, as, s.rule, s.urn, Uw82.total s.urn - m, ?_, G.r, R, SqL.of h2, G.len, G.few, by omega, fun H1 d s1 hd0 hd => ?_⟩
  · have e : (Uw82.ints s.urn).sum - (m : Int) = ((Uw82.total s.urn - m : Nat) : Int) := by
      rw [ints_sum]
      omega
    show [V.ref po, V.ref pb, V.int ((Uw82.ints s.urn).sum - (m : Int))] = _
    rw [e]
  · refine ⟨one_line, fun z hz => ?_⟩
    have s2 := same_new hz (.lst [V.int 0])
    refine ⟨_, rfl, _, rfl, d, _, c, rfl, s2 _ _ hd, g1, g2, g3, g4, g5, fun H3 u s4 hu0 hu => ?_⟩
    refine ⟨z, u, _, _, rfl, rfl, s4 _ _ upd_same, hu, (by show 1 + 2 ≤ sizeLine; omega), fun e he => ?_⟩
    have s5 := (s1.trans s2).trans s4
    exact q2.read U (Same.upd s5 (.inr he) _) (s5.free he) upd_same
/-! ### matter, rules -/
theorem scMatter : FnScope ["self", "three"] ["self"] (defScope sMatter) := ⟨rfl, rfl, rfl, by decide +kernel, rfl, by decide +kernel, by decide +kernel⟩
theorem ok_matter {f C : Addr} {fd : FuncData} (F : Fun K "matter" "Urn.matter" sMatter f fd) (T : Txt K mg C) (GF : Has P w K mg base "first_that_matter" 2 ["outcomes"] spFirst) : FnOk P w K mg base CX0 3 f fd ["self"] (spCall C 0 fun _ => .matter) := by
  refine F.ok scMatter (fun vs H Q E h => spCall.len h) (fun cdv A outer s0 H vs Q E hr h => ?_)
  obtain ⟨p, own, s, xs, rfl, hn, U, G, q⟩ := h
  obtain rfl := none_of hn
  obtain ⟨dx, po, pb, as, rfl, h1, R, h2, h3⟩ := U.ex
  have hu := hr.units
  refine ⟨_, pss_cons (ps_set (i := 1) scMatter.nd rfl (Or.inl rfl) (pe_has GF hr rfl (pa_cons (pe_fld (pv 0) rfl) pa_nil)))
    (pss_cons (ps_if (pt_cmpR (op_eqD hu) (pv 1) (pe_lst pa_nil) (nomark _)) (pss_one (ps_ret (pe_lst (pa_cons pe_int pa_nil)))) pss_nil)
    (pss_one (ps_ret (pe_op op_cat (pe_lst (pa_cons pe_int pa_nil)) (pv 1))))), ?_⟩
  have q2 : Fin C H p (p :: po :: pb :: as) s (match Uw82.firstMatter s.rule with | none => [1] | some x => Uw82.ints [0, x.1, x.2.1, x.2.2]) Q := Fin.to (c := .matter) q (by rw [Uw82.step]; rfl)
  refine ⟨_, rfl, p, C, dx, _, _, rfl, h1, T.cl, T.nO, uf_o po pb, po, as, s.rule, rfl, G.r, R, fun t ht => ?_⟩
  refine ⟨_, rfl, Nat.zero_le _, fun e he => ?_⟩
  have nte : t ≠ e := fun z => by
    rw [← z, upd_same] at he
    cases he
  have s1 := same_new ht (.lst (iv (three s.rule)))
  have s2 := Same.upd s1 (.inr he) (.lst [])
  have ht2 : (upd (upd H t (.lst (iv (three s.rule)))) e (.lst [])) t = some (.lst (iv (three s.rule))) := by rw [upd_ne nte, upd_same]
  refine ⟨_, _, Dp.lst (SqL.of ht2) (dp_ints _), Dp.lst (SqL.of upd_same) .nil, shaped_ints _, rfl, _, rfl, ?_⟩
  rw [eqv_nil]
  cases z : Uw82.firstMatter s.rule with
  | none =>
    rw [z] at q2
    have e3 : three s.rule = [] := by
      unfold three
      rw [z]
    rw [e3]
    refine ⟨one_line, fun m hm => ?_⟩
    rw [e3] at s2
    exact q2.read U (Same.upd s2 (.inr hm) _) (s2.free hm) upd_same
  | some x =>
    rw [z] at q2
    have e3 : three s.rule = [x.1, x.2.1, x.2.2] := by
      unfold three
      rw [z]
    rw [e3] at ht2 s2 ⊢
    refine ⟨one_line, fun m hm => ?_⟩
    have s3 := Same.upd s2 (.inr hm) (.lst [V.int 0])
    have nmt := ne_of_none ht2 hm
    refine ⟨_, rfl, m, t, _, _, rfl, rfl, upd_same, by rw [upd_ne nmt]; exact ht2, (by show 1 + 3 ≤ sizeLine; decide), fun g hg => ?_⟩
    exact q2.read U (Same.upd s3 (.inr hg) _) (s3.free hg) upd_same
theorem scRules : FnScope ["self", "colours"] ["self", "colours"] (defScope sRules) := ⟨rfl, rfl, rfl, by decide +kernel, rfl, by decide +kernel, by decide +kernel⟩
theorem ok_rules {f C : Addr} {fd : FuncData} (F : Fun K "rules" "Urn.rules" sRules f fd) (T : Txt K mg C) (N : Cs mg) (GC : Has P w K mg base "count_rules" 1 ["colours"] spMany) (GS : Has P w K mg base "count_sure_rules" 3 ["colours"] spSures) :
    FnOk P w K mg base CX0 4 f fd ["self", "colours"] (spCall C 1 fun xs => .rules (xs.getD 0 0)) := by
  refine F.ok scRules (fun vs H Q E h => spCall.len h) (fun cdv A outer s0 H vs Q E hr h => ?_)
  obtain ⟨p, own, s, xs, rfl, hn, U, G, q⟩ := h
  obtain ⟨k, rfl⟩ := one_of hn
  refine ⟨_, pss_cons (ps_if (PW.pt (pw_or (pt_cmpR op_lt (pv 1) (pe_num N.few rfl) (nomark _)) (pw_or1 (pt_cmpR op_gt (pv 1) (pe_num N.rules rfl) (nomark _))))) (pss_one (ps_ret (pe_lst (pa_cons (pe_un un_neg pe_int) pa_nil)))) pss_nil)
    (pss_one (ps_ret (pe_lst (pa_cons (pe_has GC (hr.mono (by decide)) rfl (pa_cons (pv 1) pa_nil)) (pa_cons (pe_has GS hr rfl (pa_cons (pv 1) pa_nil)) pa_nil))))), ?_⟩
  have no : (k < 2 ∨ 3 < k) → ∀ l, H l = none → Q (.ref l) (upd H l (.lst [.int (-1)])) := fun h => (Fin.to (c := .rules k) q (by rw [Uw82.step, if_pos h])).one U
  refine ⟨_, rfl, _, _, rfl, rfl, _, rfl, ite2 (fun h => iteT ?_) (fun h => ⟨_, rfl, _, _, rfl, rfl, _, rfl, ite2 (fun h' => ?_) (fun h' => ?_)⟩)⟩
  · have h := of_decide_eq_true h
    exact ⟨_, rfl, one_line, no (by omega)⟩
  · have h' := of_decide_eq_true h'
    exact ⟨_, rfl, one_line, no (by omega)⟩
  · have k2 : 2 ≤ k := by
      rcases Nat.lt_or_ge k 2 with z | z
      · exact absurd (decide_eq_true (show (k : Int) < 2 by omega)) h
      · exact z
    have k3 : k ≤ 3 := by
      rcases Nat.lt_or_ge 3 k with z | z
      · exact absurd (decide_eq_true (show (3 : Int) < (k : Int) by omega)) h'
      · exact z
    have q2 : Fin C H p own s (Uw82.ints [UM.manyRules k, UM.sureRules k]) Q := Fin.to (c := .rules k) q (by
      obtain ⟨e1, e2⟩ := UM.rules_eq k2 k3
      rw [Uw82.step, if_neg (by omega), ← e1, ← e2])
    refine ⟨_, rfl, k, rfl, k2, k3, _, rfl, k, rfl, k2, k3, fun H1 s1 => ⟨(by show 2 ≤ sizeLine; decide), fun m hm => ?_⟩⟩
    exact q2.read U (Same.upd s1 (.inr hm) _) (s1.free hm) upd_same
end
end U

end
section
set_option Elab.async false
set_option linter.all false
set_option maxRecDepth 100000
set_option maxHeartbeats 4000000
/-! The calls read out of one list, and answered. -/
namespace U
open PySem PySem.Spec PyProof.Rows L2
open UM (Ways wput wdraw1 wdraws wblind wblinds wsum ukeys rowsOf rowOf setRule setAt GoodR GoodS tpre)
abbrev sBegin : Stmt := top 36
abbrev sEnd : Stmt := top 37
abbrev sAnswer : Stmt := top 38
abbrev sAnswers : Stmt := top 39
/-- where a call's numbers begin, and its end -/
def begAt (l : List Nat) (p : Nat) : Nat := if l.getD p 0 = 2 then p + 2 else p + 1
def endAt (l : List Nat) (p : Nat) : Nat := if l.getD p 0 = 2 then p + 2 + l.getD (p + 1) 0 else p + 1 + UM.nums (l.getD p 0)
/-- the table's numbers -/
def tabF (c : Nat) : Option Nat := if c ≤ 10 ∧ c ≠ 2 then some (UM.nums c) else none
section
variable {P : Program} {w : World} {K : PySem.W.Frag} {mg : Str → Option Value} {base : Heap}
def spBegin (K : PySem.W.Frag) : Sp := fun vs H Q _ => ∃ (a : Addr) (l : List Nat) (p : Nat), vs = [.ref a, .int (p : Int)] ∧ SqL K H a (iv l) ∧ p < l.length ∧ Q (.int (begAt l p : Nat)) H
theorem scBegin : FnScope ["calls", "place"] ["calls", "place"] (defScope sBegin) := ⟨rfl, rfl, rfl, by decide +kernel, rfl, by decide +kernel, by decide +kernel⟩
theorem ok_begin {f : Addr} {fd : FuncData} (F : Fun K "numbers_begin" "numbers_begin" sBegin f fd) (N : Cs mg) : FnOk P w K mg base CX0 1 f fd ["calls", "place"] (spBegin K) := by
  refine F.ok scBegin (fun vs H Q E h => ?_) (fun cdv A outer s0 H vs Q E hr h => ?_)
  · obtain ⟨a, l, p, rfl, _⟩ := h
    rfl
  · obtain ⟨a, l, p, rfl, hS, hp, q⟩ := h
    refine ⟨_, pss_cons (ps_if (pt_cmpR op_eq (pe_ix ix_list (pv 0) (pv 1) (fun _ _ => rfl)) (pe_num N.cUrn rfl) (nomark _)) (pss_one (ps_ret (pe_op op_add (pv 1) pe_int))) pss_nil)
      (pss_one (ps_ret (pe_op op_add (pv 1) pe_int))), ?_⟩
    unfold begAt at q
    refine ⟨_, rfl, _, rfl, a, _, _, _, rfl, rfl, hS, iv_atI hp, rfl, _, rfl, ite2 (fun h => ?_) (fun h => ?_)⟩
    · have e : l.getD p 0 = 2 := by
        have := V.int.inj (of_decide_eq_true h)
        omega
      rw [if_pos e] at q
      exact ⟨_, rfl, _, _, rfl, rfl, q⟩
    · have e : ¬ l.getD p 0 = 2 := fun e => h (decide_eq_true (by rw [e]; rfl))
      rw [if_neg e] at q
      exact ⟨_, rfl, _, _, rfl, rfl, q⟩
def spEnd (K : PySem.W.Frag) : Sp := fun vs H Q _ => ∃ (a : Addr) (l : List Nat) (p : Nat), vs = [.ref a, .int (p : Int)] ∧ SqL K H a (iv l) ∧ p < l.length ∧ (l.getD p 0 = 2 → p + 1 < l.length) ∧ l.getD p 0 ≤ 10 ∧ Q (.int (endAt l p : Nat)) H
theorem scEnd : FnScope ["calls", "place", "begin"] ["calls", "place"] (defScope sEnd) := ⟨rfl, rfl, rfl, by decide +kernel, rfl, by decide +kernel, by decide +kernel⟩
theorem ok_end {f d : Addr} {fd : FuncData} (F : Fun K "call_end" "call_end" sEnd f fd) (N : Cs mg) (hd : mg "NUMBERS_OF_CALL" = some (.ref d)) (TB : Tab P w K d tabF) (GB : Has P w K mg base "numbers_begin" 1 ["calls", "place"] (spBegin K)) : FnOk P w K mg base CX0 2 f fd ["calls", "place"] (spEnd K) := by
  refine F.ok scEnd (fun vs H Q E h => ?_) (fun cdv A outer s0 H vs Q E hr h => ?_)
  · obtain ⟨a, l, p, rfl, _⟩ := h
    rfl
  · obtain ⟨a, l, p, rfl, hS, hp, hp1, hc, q⟩ := h
    refine ⟨_, pss_cons (ps_set (i := 2) scEnd.nd rfl (Or.inl rfl) (pe_has GB hr rfl (pa_cons (pv 0) (pa_cons (pv 1) pa_nil))))
      (pss_cons (ps_if (pt_cmpR op_eq (pe_ix ix_list (pv 0) (pv 1) (fun _ _ => rfl)) (pe_num N.cUrn rfl) (nomark _)) (pss_one (ps_ret (pe_op op_add (pv 2) (pe_ix ix_list (pv 0) (pe_op op_add (pv 1) pe_int) (fun _ _ => rfl))))) pss_nil)
      (pss_one (ps_ret (pe_op op_add (pv 2) (pe_tab TB rfl hd (pe_ix ix_list (pv 0) (pv 1) (fun _ _ => rfl)) (fun _ _ => rfl)))))), ?_⟩
    refine ⟨_, rfl, _, rfl, a, l, p, rfl, hS, hp, ?_⟩
    unfold endAt at q
    unfold begAt
    refine ⟨_, rfl, _, rfl, a, _, _, _, rfl, rfl, hS, iv_atI hp, rfl, _, rfl, ite2 (fun h => ?_) (fun h => ?_)⟩
    · have e : l.getD p 0 = 2 := by
        have := V.int.inj (of_decide_eq_true h)
        omega
      rw [if_pos e] at q ⊢
      have e2 : (p : Int) + 1 = ((p + 1 : Nat) : Int) := rfl
      refine ⟨_, rfl, _, rfl, _, rfl, _, _, rfl, rfl, a, _, _, _, rfl, rfl, hS, iv_atI (j := p + 1) (hp1 e), _, _, rfl, rfl, q⟩
    · have e : ¬ l.getD p 0 = 2 := fun e => h (decide_eq_true (by rw [e]; rfl))
      rw [if_neg e] at q ⊢
      refine ⟨_, rfl, _, rfl, _, rfl, a, _, _, _, rfl, rfl, hS, iv_atI hp, l.getD p 0, UM.nums (l.getD p 0), rfl, ?_, _, _, rfl, rfl, q⟩
      unfold tabF
      rw [if_pos ⟨hc, e⟩]
/-! ### answer -/
def spAnswer (K : PySem.W.Frag) (C : Addr) : Sp := fun vs H Q _ => ∃ (p nl : Addr) (own : List Addr) (s : Uw82.St) (c : Nat) (args : List Nat) (x : Uw82.Call), vs = [.ref p, .int (c : Int), .ref nl] ∧ UrnAt C H p own s ∧ GoodS s ∧ SqL K H nl (iv args) ∧
  Uw82Neutral.callIn (c :: args) = some x ∧ (c = 2 ∨ c ≤ 10 ∧ args.length = UM.nums c) ∧ Fin C H p own (Uw82.step s x).1 (Uw82.step s x).2 Q
/-- all the methods -/
structure Ms (P : Program) (w : World) (K : PySem.W.Frag) (mg : Str → Option Value) (base : Heap) (C : Addr) : Prop where
  begins : HasM P w K mg base C "begins" 6 ["self", "colours"] (spCall C 1 fun xs => .begins (xs.getD 0 0))
  rule : HasM P w K mg base C "rule" 6 ["self", "a", "b", "c"] (spCall C 3 fun xs => .rule (xs.getD 0 0) (xs.getD 1 0) (xs.getD 2 0))
  urn : HasM P w K mg base C "urn" 6 ["self", "balls"] (spUrn K C)
  draw : HasM P w K mg base C "draw" 6 ["self", "a", "b"] (spCall C 2 fun xs => .draw (xs.getD 0 0) (xs.getD 1 0))
  lasts : HasM P w K mg base C "lasts" 6 ["self"] (spCall C 0 fun _ => .lasts)
  sure : HasM P w K mg base C "sure" 6 ["self"] (spCall C 0 fun _ => .sure)
  comes : HasM P w K mg base C "comes" 6 ["self"] (spCall C 0 fun _ => .comes)
  chances : HasM P w K mg base C "chances" 6 ["self"] (spCall C 0 fun _ => .chances)
  average : HasM P w K mg base C "average" 6 ["self", "left", "colour"] (spCall C 2 fun xs => .average (xs.getD 0 0) (xs.getD 1 0))
  matter : HasM P w K mg base C "matter" 6 ["self"] (spCall C 0 fun _ => .matter)
  rules : HasM P w K mg base C "rules" 6 ["self", "colours"] (spCall C 1 fun xs => .rules (xs.getD 0 0))
theorem scAnswer : FnScope ["urn", "call", "numbers"] ["urn", "call", "numbers"] (defScope sAnswer) := ⟨rfl, rfl, rfl, by decide +kernel, rfl, by decide +kernel, by decide +kernel⟩
theorem dec_ne {a b : Nat} (h : ¬ a = b) : decide (V.int (a : Int) = V.int (b : Int)) = false := decide_eq_false fun e => h (by have := V.int.inj e; omega)
theorem test_no {c k : Nat} {A B : Prop} (h : ¬ c = k) (b : B) : if decide (V.int (c : Int) = V.int (k : Int)) = true then A else B := by
  rw [dec_ne h]
  exact iteF b
theorem test_yes {c : Nat} {A B : Prop} (a : A) : if decide (V.int (c : Int) = V.int (c : Int)) = true then A else B := by
  rw [decide_eq_true rfl]
  exact iteT a
theorem ok_answer {f C : Addr} {fd : FuncData} (F : Fun K "answer" "answer" sAnswer f fd) (T : Txt K mg C) (N : Cs mg) (M : Ms P w K mg base C) : FnOk P w K mg base CX0 7 f fd ["urn", "call", "numbers"] (spAnswer K C) := by
  refine F.ok scAnswer (fun vs H Q E h => ?_) (fun cdv A outer s0 H vs Q E hr h => ?_)
  · obtain ⟨p, nl, own, s, c, args, x, rfl, _⟩ := h
    rfl
  · obtain ⟨p, nl, own, s, c, args, x, rfl, U, G, hS, hx, hc, q⟩ := h
    obtain ⟨dx, po, pb, as, rfl, h1, R, h2, h3⟩ := U.ex
    have nof : ∀ {m : Str}, ¬ m = "outcomes" → ¬ m = "balls" → (uf po pb).lookup m = none := fun a b => uf_no po pb a b
    refine ⟨_, pss_cons (ps_if (pt_cmpR op_eq (pv 1) (pe_num N.cBegins rfl) (nomark _)) (pss_one (ps_ret (pe_hasM M.begins T.cl hr (pv 0) (pa_cons (pe_ix ix_list (pv 2) pe_int (fun _ _ => rfl)) pa_nil)))) pss_nil)
      (pss_cons (ps_if (pt_cmpR op_eq (pv 1) (pe_num N.cRule rfl) (nomark _)) (pss_one (ps_ret (pe_hasM M.rule T.cl hr (pv 0) (pa_cons (pe_ix ix_list (pv 2) pe_int (fun _ _ => rfl)) (pa_cons (pe_ix ix_list (pv 2) pe_int (fun _ _ => rfl)) (pa_cons (pe_ix ix_list (pv 2) pe_int (fun _ _ => rfl)) pa_nil)))))) pss_nil)
      (pss_cons (ps_if (pt_cmpR op_eq (pv 1) (pe_num N.cUrn rfl) (nomark _)) (pss_one (ps_ret (pe_hasM M.urn T.cl hr (pv 0) (pa_cons (pv 2) pa_nil)))) pss_nil)
      (pss_cons (ps_if (pt_cmpR op_eq (pv 1) (pe_num N.cDraw rfl) (nomark _)) (pss_one (ps_ret (pe_hasM M.draw T.cl hr (pv 0) (pa_cons (pe_ix ix_list (pv 2) pe_int (fun _ _ => rfl)) (pa_cons (pe_ix ix_list (pv 2) pe_int (fun _ _ => rfl)) pa_nil))))) pss_nil)
      (pss_cons (ps_if (pt_cmpR op_eq (pv 1) (pe_num N.cLasts rfl) (nomark _)) (pss_one (ps_ret (pe_hasM0 M.lasts T.cl hr (pv 0)))) pss_nil)
      (pss_cons (ps_if (pt_cmpR op_eq (pv 1) (pe_num N.cSure rfl) (nomark _)) (pss_one (ps_ret (pe_hasM0 M.sure T.cl hr (pv 0)))) pss_nil)
      (pss_cons (ps_if (pt_cmpR op_eq (pv 1) (pe_num N.cComes rfl) (nomark _)) (pss_one (ps_ret (pe_hasM0 M.comes T.cl hr (pv 0)))) pss_nil)
      (pss_cons (ps_if (pt_cmpR op_eq (pv 1) (pe_num N.cChances rfl) (nomark _)) (pss_one (ps_ret (pe_hasM0 M.chances T.cl hr (pv 0)))) pss_nil)
      (pss_cons (ps_if (pt_cmpR op_eq (pv 1) (pe_num N.cAverage rfl) (nomark _)) (pss_one (ps_ret (pe_hasM M.average T.cl hr (pv 0) (pa_cons (pe_ix ix_list (pv 2) pe_int (fun _ _ => rfl)) (pa_cons (pe_ix ix_list (pv 2) pe_int (fun _ _ => rfl)) pa_nil))))) pss_nil)
      (pss_cons (ps_if (pt_cmpR op_eq (pv 1) (pe_num N.cMatter rfl) (nomark _)) (pss_one (ps_ret (pe_hasM0 M.matter T.cl hr (pv 0)))) pss_nil)
      (pss_one (ps_ret (pe_hasM M.rules T.cl hr (pv 0) (pa_cons (pe_ix ix_list (pv 2) pe_int (fun _ _ => rfl)) pa_nil))))))))))))), ?_⟩
    have nums1 : ∀ {k : Nat}, c = k → UM.nums k = 1 → c ≠ 2 → ∃ x0, args = [x0] := fun e e1 e2 => one_of (by
      rcases hc with z | ⟨_, z⟩
      · exact absurd z e2
      · rw [z, e, e1])
    have nums2 : ∀ {k : Nat}, c = k → UM.nums k = 2 → c ≠ 2 → ∃ x0 x1, args = [x0, x1] := fun e e1 e2 => two_of (by
      rcases hc with z | ⟨_, z⟩
      · exact absurd z e2
      · rw [z, e, e1])
    have nums0 : ∀ {k : Nat}, c = k → UM.nums k = 0 → c ≠ 2 → args = [] := fun e e1 e2 => none_of (by
      rcases hc with z | ⟨_, z⟩
      · exact absurd z e2
      · rw [z, e, e1])
    refine ⟨_, rfl, rfl, _, rfl, ?_⟩
    by_cases c0 : c = 0
    · obtain ⟨k, rfl⟩ := nums1 c0 rfl (by omega)
      subst c0
      obtain rfl : x = .begins k := (Option.some.inj (show some (Uw82.Call.begins k) = some x from hx)).symm
      exact test_yes ⟨_, rfl, p, dx, _, rfl, h1, nof (by decide +kernel) (by decide +kernel), _, rfl, nl, _, _, _, rfl, rfl, hS, atI_nat (j := 0) rfl, p, _, s, [k], rfl, rfl, U, G, q⟩
    refine test_no (k := 0) c0 ⟨_, rfl, rfl, _, rfl, ?_⟩
    by_cases c1 : c = 1
    · obtain ⟨k0, k1, k2, rfl⟩ : ∃ x0 x1 x2, args = [x0, x1, x2] := three_of (by
        rcases hc with z | ⟨_, z⟩
        · omega
        · rw [z, c1]; rfl)
      subst c1
      obtain rfl : x = .rule k0 k1 k2 := (Option.some.inj (show some (Uw82.Call.rule k0 k1 k2) = some x from hx)).symm
      exact test_yes ⟨_, rfl, p, dx, _, rfl, h1, nof (by decide +kernel) (by decide +kernel), _, rfl, nl, _, _, _, rfl, rfl, hS, atI_nat (j := 0) rfl, _, rfl, nl, _, _, _, rfl, rfl, hS, atI_nat (j := 1) rfl, _, rfl, nl, _, _, _, rfl, rfl, hS, atI_nat (j := 2) rfl,
        p, _, s, [k0, k1, k2], rfl, rfl, U, G, q⟩
    refine test_no (k := 1) c1 ⟨_, rfl, rfl, _, rfl, ?_⟩
    by_cases c2 : c = 2
    · subst c2
      obtain rfl : x = .urn args := (Option.some.inj (show some (Uw82.Call.urn args) = some x from hx)).symm
      exact test_yes ⟨_, rfl, p, dx, _, rfl, h1, nof (by decide +kernel) (by decide +kernel), _, rfl, p, nl, _, s, args, rfl, U, G, hS, q⟩
    refine test_no (k := 2) c2 ⟨_, rfl, rfl, _, rfl, ?_⟩
    by_cases c3 : c = 3
    · obtain ⟨k0, k1, rfl⟩ := nums2 c3 rfl c2
      subst c3
      obtain rfl : x = .draw k0 k1 := (Option.some.inj (show some (Uw82.Call.draw k0 k1) = some x from hx)).symm
      exact test_yes ⟨_, rfl, p, dx, _, rfl, h1, nof (by decide +kernel) (by decide +kernel), _, rfl, nl, _, _, _, rfl, rfl, hS, atI_nat (j := 0) rfl, _, rfl, nl, _, _, _, rfl, rfl, hS, atI_nat (j := 1) rfl, p, _, s, [k0, k1], rfl, rfl, U, G, q⟩
    refine test_no (k := 3) c3 ⟨_, rfl, rfl, _, rfl, ?_⟩
    by_cases c4 : c = 4
    · obtain rfl := nums0 c4 rfl c2
      subst c4
      obtain rfl : x = .lasts := (Option.some.inj (show some Uw82.Call.lasts = some x from hx)).symm
      exact test_yes ⟨_, rfl, p, dx, _, rfl, h1, nof (by decide +kernel) (by decide +kernel), p, _, s, [], rfl, rfl, U, G, q⟩
    refine test_no (k := 4) c4 ⟨_, rfl, rfl, _, rfl, ?_⟩
    by_cases c5 : c = 5
    · obtain rfl := nums0 c5 rfl c2
      subst c5
      obtain rfl : x = .sure := (Option.some.inj (show some Uw82.Call.sure = some x from hx)).symm
      exact test_yes ⟨_, rfl, p, dx, _, rfl, h1, nof (by decide +kernel) (by decide +kernel), p, _, s, [], rfl, rfl, U, G, q⟩
    refine test_no (k := 5) c5 ⟨_, rfl, rfl, _, rfl, ?_⟩
    by_cases c6 : c = 6
    · obtain rfl := nums0 c6 rfl c2
      subst c6
      obtain rfl : x = .comes := (Option.some.inj (show some Uw82.Call.comes = some x from hx)).symm
      exact test_yes ⟨_, rfl, p, dx, _, rfl, h1, nof (by decide +kernel) (by decide +kernel), p, _, s, [], rfl, rfl, U, G, q⟩
    refine test_no (k := 6) c6 ⟨_, rfl, rfl, _, rfl, ?_⟩
    by_cases c7 : c = 7
    · obtain rfl := nums0 c7 rfl c2
      subst c7
      obtain rfl : x = .chances := (Option.some.inj (show some Uw82.Call.chances = some x from hx)).symm
      exact test_yes ⟨_, rfl, p, dx, _, rfl, h1, nof (by decide +kernel) (by decide +kernel), p, _, s, [], rfl, rfl, U, G, q⟩
    refine test_no (k := 7) c7 ⟨_, rfl, rfl, _, rfl, ?_⟩
    by_cases c8 : c = 8
    · obtain ⟨k0, k1, rfl⟩ := nums2 c8 rfl c2
      subst c8
      obtain rfl : x = .average k0 k1 := (Option.some.inj (show some (Uw82.Call.average k0 k1) = some x from hx)).symm
      exact test_yes ⟨_, rfl, p, dx, _, rfl, h1, nof (by decide +kernel) (by decide +kernel), _, rfl, nl, _, _, _, rfl, rfl, hS, atI_nat (j := 0) rfl, _, rfl, nl, _, _, _, rfl, rfl, hS, atI_nat (j := 1) rfl, p, _, s, [k0, k1], rfl, rfl, U, G, q⟩
    refine test_no (k := 8) c8 ⟨_, rfl, rfl, _, rfl, ?_⟩
    by_cases c9 : c = 9
    · obtain rfl := nums0 c9 rfl c2
      subst c9
      obtain rfl : x = .matter := (Option.some.inj (show some Uw82.Call.matter = some x from hx)).symm
      exact test_yes ⟨_, rfl, p, dx, _, rfl, h1, nof (by decide +kernel) (by decide +kernel), p, _, s, [], rfl, rfl, U, G, q⟩
    refine test_no (k := 9) c9 ?_
    have c10 : c = 10 := by
      rcases hc with z | ⟨z, _⟩
      · exact absurd z c2
      · omega
    obtain ⟨k, rfl⟩ := nums1 c10 rfl c2
    subst c10
    obtain rfl : x = .rules k := (Option.some.inj (show some (Uw82.Call.rules k) = some x from hx)).symm
    exact ⟨_, rfl, p, dx, _, rfl, h1, nof (by decide +kernel) (by decide +kernel), _, rfl, nl, _, _, _, rfl, rfl, hS, atI_nat (j := 0) rfl, p, _, s, [k], rfl, rfl, U, G, q⟩
end
end U

end
section
set_option Elab.async false
set_option linter.all false
set_option maxRecDepth 100000
set_option maxHeartbeats 4000000
/-! The whole line. -/
namespace U
open PySem PySem.Spec PyProof.Rows L2
open UM (Ways wput wdraw1 wdraws wblind wblinds wsum ukeys rowsOf rowOf setRule setAt GoodR GoodS tpre)
theorem cut_iv {l : List Nat} {b n : Nat} (h : b + n ≤ l.length) : cutV (iv l) (some (b : Int)) (some ((b + n : Nat) : Int)) = iv ((l.drop b).take n) := by
  unfold cutV
  rw [HT.sIx_nat, HT.sIx_nat, iv_len, Nat.min_eq_left (show b ≤ l.length by omega), Nat.min_eq_left h, Nat.add_sub_cancel_left]
  unfold iv
  rw [List.map_take, List.map_drop]
theorem getD_of {l : List Nat} {p c : Nat} (h : l[p]? = some c) : l.getD p 0 = c := by
  rw [List.getD_eq_getElem?_getD, h]
  rfl
theorem turn_ends {l : List Nat} {p : Nat} {s : Uw82.St} {g : List Int} {c : Nat} {args : List Nat} {b q : Nat} {x : Uw82.Call} (t : UM.Turn1 l p s g c args b q x) : begAt l p = b ∧ endAt l p = q ∧ (l.getD p 0 = 2 → p + 1 < l.length) ∧ l.getD p 0 ≤ 10 ∧ (c = 2 ∨ c ≤ 10 ∧ args.length = UM.nums c) := by
  have e := getD_of t.at_
  unfold begAt endAt
  rw [e]
  rcases t.is_ with ⟨rfl, rfl, h⟩ | ⟨h1, h2, rfl, h4⟩
  · have e2 := getD_of h
    have := (List.getElem?_eq_some_iff.mp h).1
    rw [if_pos rfl, if_pos rfl, e2, t.eq_]
    exact ⟨rfl, rfl, fun _ => this, by decide, .inl rfl⟩
  · rw [if_neg h1, if_neg h1, t.eq_, h4]
    exact ⟨rfl, rfl, fun z => absurd z h1, h2, .inr ⟨h2, rfl⟩⟩
section
variable {P : Program} {w : World} {K : PySem.W.Frag} {mg : Str → Option Value} {base : Heap}
def spAnswers (K : PySem.W.Frag) : Sp := fun vs H Q _ => ∃ (a : Addr) (l : List Nat), vs = [.ref a] ∧ SqL K H a (iv l) ∧ l.length ≤ 30000 ∧ PyUw82.answers_asked (Uw82.ints l) = true ∧
  ∀ (H' : Hp) (p : Addr), H' p = some (.lst ((PyUw82.answers (Uw82.ints l)).map V.int)) → Q (.ref p) H'
theorem scAnswers : FnScope ["calls", "urn", "given", "place", "end", "numbers", "answered"] ["calls"] (defScope sAnswers) := ⟨rfl, rfl, rfl, by decide +kernel, rfl, by decide +kernel, by decide +kernel⟩
theorem ok_answers {f C fI : Addr} {fd fdI : FuncData} (F : Fun K "answers" "answers" sAnswers f fd) (B : Bt mg) (hC : mg "Urn" = some (.ref C)) (MK : Mk K C fI) (bI : Binds K fdI ["self"] []) (GI : FnOk P w K mg base CX0 6 fI fdI ["self"] (spInit C))
    (GB : Has P w K mg base "numbers_begin" 7 ["calls", "place"] (spBegin K)) (GE : Has P w K mg base "call_end" 7 ["calls", "place"] (spEnd K)) (GA : Has P w K mg base "answer" 7 ["urn", "call", "numbers"] (spAnswer K C)) : FnOk P w K mg base CX0 8 f fd ["calls"] (spAnswers K) := by
  refine F.ok scAnswers (fun vs H Q E h => ?_) (fun cdv A outer s0 H vs Q E hr h => ?_)
  · obtain ⟨a, l, rfl, _⟩ := h
    rfl
  · obtain ⟨a, l, rfl, hS, hl, hask, q⟩ := h
    have hsl := sizeLine_eq
    refine ⟨_, pss_cons (ps_set (i := 1) scAnswers.nd rfl (Or.inl rfl) (pe_make0 MK GI hr rfl hC bI .nil pass0))
      (pss_cons (ps_set (i := 2) scAnswers.nd rfl (Or.inl rfl) (pe_lst pa_nil))
      (pss_cons (ps_set (i := 3) scAnswers.nd rfl (Or.inl rfl) pe_int)
      (pss_cons (ps_while PassesOwn.never (pt_cmpR op_lt (pv 3) (pe_callB call_len_seq rfl B.len bl_len (pa_cons (pv 0) pa_nil)) (nomark _))
        (pss_cons (ps_set (i := 4) scAnswers.nd rfl (Or.inl rfl) (pe_has GE hr rfl (pa_cons (pv 0) (pa_cons (pv 3) pa_nil))))
        (pss_cons (ps_set (i := 5) scAnswers.nd rfl (Or.inl rfl) (pe_slice sl_list (pv 0) (po_some (pe_has GB hr rfl (pa_cons (pv 0) (pa_cons (pv 3) pa_nil)))) (po_some (pv 4))))
        (pss_cons (ps_set (i := 6) scAnswers.nd rfl (Or.inl rfl) (pe_has GA hr rfl (pa_cons (pv 1) (pa_cons (pe_ix ix_list (pv 0) (pv 3) (fun _ _ => rfl)) (pa_cons (pv 5) pa_nil)))))
        (pss_cons (ps_expr (pe_bm PySem.F.plainAttrs_list PySem.F.slot_list_append PySem.F.type_list_append mt_append (pv 2) (pa_cons (pe_callB call_len_seq rfl B.len bl_len (pa_cons (pv 6) pa_nil)) pa_nil)))
        (pss_cons (ps_expr (pe_bm PySem.F.plainAttrs_list PySem.F.slot_list_extend PySem.F.type_list_extend mt_extend (pv 2) (pa_cons (pv 6) pa_nil)))
        (pss_one (ps_set (i := 3) scAnswers.nd rfl (Or.inl rfl) (pv 4)))))))))
      (pss_one (ps_ret (pv 2)))))), ?_⟩
    intro u dx hu0 hdx ndx
    refine ⟨u, dx, rfl, upd_same, fun H1 own U1 hown kp1 => ⟨rfl, ?_⟩⟩
    have s1 : Same H H1 := fun b o e => kp1 b o (by rw [upd_ne (ne_of_none e hu0), upd_ne (ne_of_none e hdx)]; exact e) (ne_of_none e hu0)
    have own0 : ∀ b ∈ own, H b = none := fun b hb => by
      rcases hown b hb with rfl | z
      · exact hu0
      · have nb : b ≠ u := fun e => by
          rw [e, upd_same] at z
          cases z
        rw [upd_ne nb] at z
        have nd : b ≠ dx := fun e => by
          rw [e, upd_same] at z
          cases z
        rwa [upd_ne nd] at z
    refine ⟨Nat.zero_le _, fun gl hgl => ?_⟩
    have s2 := Same.upd s1 (.inr hgl) (.lst [])
    have hgl0 := s1.free hgl
    have glown : gl ∉ own := fun m => by
      obtain ⟨dx', po, pb, as, rfl, g1, R, g2, g3⟩ := U1.ex
      rcases List.mem_cons.mp m with rfl | m
      · rw [hgl] at g1; cases g1
      · rcases List.mem_cons.mp m with rfl | m
        · have := R.lst
          rw [hgl] at this; cases this
        · rcases List.mem_cons.mp m with rfl | m
          · rw [hgl] at g2; cases g2
          · obtain ⟨j, hj⟩ := List.getElem?_of_mem m
            obtain ⟨row, _, e⟩ := R.at_ j gl hj
            rw [hgl] at e; cases e
    refine ⟨fun m σ H' => ∃ (pl : Nat) (st : Uw82.St) (own : List Addr) (g : List Int) (ve vn va : Option V), m = l.length - pl ∧ σ = [some (.ref a), some (.ref u), some (.ref gl), some (.int (pl : Int)), ve, vn, va] ∧ Same H H' ∧ UrnAt C H' u own st ∧ (∀ b ∈ own, H b = none) ∧ gl ∉ own ∧
      H' gl = some (.lst (g.map V.int)) ∧ UM.Left l pl st g, ⟨l.length - 0, 0, Uw82.init, own, [], none, none, none, rfl, rfl, s2, U1.same (same_new hgl _), own0, glown, upd_same, UM.left_start hask⟩, ?_⟩
    rintro m σ H' ⟨pl, st, own, g, ve, vn, va, rfl, rfl, s3, U3, own3, glo, hg, L⟩
    refine ⟨_, rfl, _, rfl, a, _, rfl, .inl (s3.seq hS), _, _, rfl, rfl, _, rfl, ite2 (fun h => ?_) (fun h => ?_)⟩
    · have hp : pl < l.length := by
        have := of_decide_eq_true h
        rw [iv_len] at this
        omega
      obtain ⟨c, args, b, e, x, t⟩ := UM.left_turn L hp
      obtain ⟨eb, ee, t1, t2, t3⟩ := turn_ends t
      have hbe : b + args.length ≤ l.length := by
        have := t.le
        rw [t.eq_] at this
        exact this
      have hlt : pl < e := by
        have e1 := t.eq_
        rcases t.is_ with ⟨_, z, _⟩ | ⟨_, _, z, _⟩ <;> omega
      have hroom := t.room
      have hsl9 := UM.step_len L.good x
      refine ⟨fun σ' H2 => ∃ (st' : Uw82.St) (own' : List Addr) (g' : List Int) (ve vn va : Option V), σ' = [some (.ref a), some (.ref u), some (.ref gl), some (.int (e : Int)), ve, vn, va] ∧ Same H H2 ∧ UrnAt C H2 u own' st' ∧ (∀ b ∈ own', H b = none) ∧ gl ∉ own' ∧
        H2 gl = some (.lst (g'.map V.int)) ∧ UM.Left l e st' g', ?_, ?_⟩
      · rintro σ' H2 ⟨st', own', g', ve, vn, va, rfl, z1, z2, z3, z4, z5, z6⟩
        exact ⟨l.length - e, by omega, e, st', own', g', ve, vn, va, rfl, rfl, z1, z2, z3, z4, z5, z6⟩
      · refine ⟨_, rfl, _, rfl, a, l, pl, rfl, s3.seq hS, hp, t1, t2, ?_⟩
        rw [ee]
        refine ⟨_, rfl, _, rfl, _, rfl, a, l, pl, rfl, s3.seq hS, hp, _, rfl, _, rfl, _, rfl, a, _, rfl, s3.seq hS, fun nl hnl => ?_⟩
        have ecut : cutV (iv l) (some ((begAt l pl : Nat) : Int)) (some (e : Int)) = iv args := by
          rw [eb, t.eq_, cut_iv hbe, t.cut]
        rw [ecut]
        have s4 := same_new hnl (.lst (iv args))
        have s5 := s3.trans s4
        refine ⟨_, rfl, _, rfl, _, rfl, a, _, _, _, rfl, rfl, s5.seq hS, iv_atI hp, _, rfl, u, nl, own, st, c, args, x, ?_, U3.same s4, L.good, SqL.of upd_same, t.cl, t3, ?_⟩
        · rw [getD_of t.at_]
          rfl
        · intro H5 ans own' U5 kp5 ok5 hans0 hans
          have hgl5 := kp5 gl _ (s4 _ _ hg) glo
          have nga : gl ≠ ans := ne_of_none (s4 _ _ hg) hans0
          have s6 : Same H H5 := fun d o ed => kp5 d o (s5 _ _ ed) (fun z => by
            have := own3 d z
            rw [ed] at this
            cases this)
          have own5 : ∀ d ∈ own', H d = none := fun d hd => by
            rcases ok5 d hd with z | z
            · exact own3 d z
            · exact s5.free z
          have glo5 : gl ∉ own' := fun z => by
            rcases ok5 gl z with y | y
            · exact glo y
            · rw [s4 _ _ hg] at y
              cases y
          refine ⟨_, rfl, .inl ⟨rfl, _, SqL.of hgl5⟩, _, rfl, ans, _, rfl, .inl (SqL.of hans), gl, _, _, rfl, rfl, hgl5, ?_, ?_⟩
          · rw [List.length_map]
            omega
          · refine ⟨_, rfl, .inl ⟨rfl, _, SqL.of upd_same⟩, _, rfl, gl, ans, _, _, rfl, rfl, upd_same, by rw [upd_ne nga.symm]; exact hans, ?_, ?_⟩
            · rw [List.length_append, List.length_map, List.length_map]
              show g.length + 1 + _ ≤ sizeLine
              omega
            · rw [upd_upd]
              refine ⟨_, rfl, _, own', _, _, _, _, rfl, Same.upd s6 (.inl hgl0) _, U5.keep fun d o hd ed => ?_, own5, glo5, ?_, t.left⟩
              · rw [upd_ne (fun z => glo5 (by rw [← z]; exact hd))]
                exact ed
              · rw [upd_same, List.length_map]
                simp
    · have hp : l.length ≤ pl := by
        rcases Nat.lt_or_ge pl l.length with z | z
        · exact absurd (decide_eq_true (show (pl : Int) < ((iv l).length : Int) by rw [iv_len]; omega)) h
        · exact z
      refine ⟨_, rfl, q H' gl ?_⟩
      rw [← UM.left_end L hp]
      exact hg
end
end U

end
set_option Elab.async false
set_option linter.all false
set_option maxRecDepth 100000
set_option maxHeartbeats 4000000
/-! What the top has written, and the row's head. -/
namespace U
open PySem PySem.Spec PyProof.Rows L2
/-- a function of the module's, as the top has left it -/
structure FnAt (K : PySem.W.Frag) (x : Str) (st : Stmt) : Prop where
  ex : ∃ f fd, PySem.W.nsIn K mainGlobals x = some (some (.ref f)) ∧ Fun K x x st f fd
theorem fn_at {K : PySem.W.Frag} {x : Str} {st : Stmt} {f : Addr} {od an : Option Addr} {sl : Array (Option Value)} {oc kV doc pm cd ct : Value} (a : PySem.W.nsIn K mainGlobals x = some (some (.ref f)))
    (l : K.lookup f = some ⟨oc, od, .func (PySem.W.fnOf x x (defArgs st) (defBody st) (defScope st) .none kV doc pm an cd ct), sl⟩) (c : PySem.W.codeIn K cd x = true) (k : PySem.W.keepIn K (.ref f) = true) : FnAt K x st := ⟨⟨f, _, a, fun_mk l c k⟩⟩
/-- a method of the class's -/
structure MtAt (K : PySem.W.Frag) (C : Addr) (x qual : Str) (st : Stmt) : Prop where
  ex : ∃ f fd, Meth K C x f ∧ PySem.W.findIn K (.ref C) x = some (some (.ref f)) ∧ PySem.W.isFn K (.ref f) = true ∧ Fun K x qual st f fd
theorem mt_at {K : PySem.W.Frag} {C : Addr} {x qual : Str} {st : Stmt} {f : Addr} {od an : Option Addr} {sl : Array (Option Value)} {oc kV doc pm cd ct : Value} (a : PySem.W.findIn K (.ref C) x = some (some (.ref f))) (i : PySem.W.isFn K (.ref f) = true)
    (l : K.lookup f = some ⟨oc, od, .func (PySem.W.fnOf x qual (defArgs st) (defBody st) (defScope st) .none kV doc pm an cd ct), sl⟩) (c : PySem.W.codeIn K cd qual = true) (k : PySem.W.keepIn K (.ref f) = true) : MtAt K C x qual st := ⟨⟨f, _, ⟨a, i, k⟩, a, i, fun_mk l c k⟩⟩
theorem has_of {P : Program} {w : World} {K : PySem.W.Frag} {h : Heap} {mg : Str → Option Value} {base : Heap} {x : Str} {st : Stmt} {k : Nat} {ps : List Str} {sp : Sp} (X : K.In h) (G : h.Ns mainGlobals mg) (A : FnAt K x st)
    (hb : ∀ (kV doc pm : Value) (an : Option Addr) (cdv ct : Value) (us : List Value), us.length = ps.length → bindArgs (PySem.W.fnOf x x (defArgs st) (defBody st) (defScope st) .none kV doc pm an cdv ct) ⟨us, []⟩ = pure (ps.zip us))
    (ok : ∀ f fd, Fun K x x st f fd → FnOk P w K mg base CX0 k f fd ps sp) : Has P w K mg base x k ps sp :=
  let ⟨f, fd, a, F⟩ := A.ex; ⟨f, fd, PySem.W.mg_of X G a, F.kp, F.binds hb, ok f fd F⟩
theorem hasM_of {P : Program} {w : World} {K : PySem.W.Frag} {mg : Str → Option Value} {base : Heap} {C : Addr} {x qual : Str} {st : Stmt} {k : Nat} {ps : List Str} {sp : Sp} (A : MtAt K C x qual st)
    (hb : ∀ (kV doc pm : Value) (an : Option Addr) (cdv ct : Value) (us : List Value), us.length = ps.length → bindArgs (PySem.W.fnOf x qual (defArgs st) (defBody st) (defScope st) .none kV doc pm an cdv ct) ⟨us, []⟩ = pure (ps.zip us))
    (ok : ∀ f fd, Fun K x qual st f fd → FnOk P w K mg base CX0 k f fd ps sp) : HasM P w K mg base C x k ps sp :=
  let ⟨f, fd, m, _, _, F⟩ := A.ex; ⟨f, fd, m, F.binds hb, ok f fd F⟩
theorem cst {K : PySem.W.Frag} {x : Str} {i : Int} {t : Tok} (e : PySem.W.nsIn K mainGlobals x = some (some (.int i t))) : ∃ t, PySem.W.nsIn K mainGlobals x = some (some (.int i t)) := ⟨t, e⟩
/-- the table of the calls' numbers -/
theorem tab_mk {P : Program} {w : World} {K : PySem.W.Frag} {d : Addr} {ep : Nat} {h0 h1 h3 h4 h5 h6 h7 h8 h9 h10 : Int} {a0 b0 a1 b1 a3 b3 a4 b4 a5 b5 a6 b6 a7 b7 a8 b8 a9 b9 a10 b10 : Tok}
    (l : K.lookup d = some ⟨.type "dict", none, .dict #[⟨h0, .int 0 a0, .int 1 b0⟩, ⟨h1, .int 1 a1, .int 3 b1⟩, ⟨h3, .int 3 a3, .int 2 b3⟩, ⟨h4, .int 4 a4, .int 0 b4⟩, ⟨h5, .int 5 a5, .int 0 b5⟩, ⟨h6, .int 6 a6, .int 0 b6⟩, ⟨h7, .int 7 a7, .int 0 b7⟩, ⟨h8, .int 8 a8, .int 2 b8⟩, ⟨h9, .int 9 a9, .int 0 b9⟩, ⟨h10, .int 10 a10, .int 1 b10⟩] ep, #[]⟩)
    (e : [h0, h1, h3, h4, h5, h6, h7, h8, h9, h10] = [hashInt 0, hashInt 1, hashInt 3, hashInt 4, hashInt 5, hashInt 6, hashInt 7, hashInt 8, hashInt 9, hashInt 10]) : Tab P w K d tabF := by
  refine ⟨[(Sum.inl 0, .int 1 b0), (Sum.inl 1, .int 3 b1), (Sum.inl 3, .int 2 b3), (Sum.inl 4, .int 0 b4), (Sum.inl 5, .int 0 b5), (Sum.inl 6, .int 0 b6), (Sum.inl 7, .int 0 b7), (Sum.inl 8, .int 2 b8), (Sum.inl 9, .int 0 b9), (Sum.inl 10, .int 1 b10)], fun h X => ⟨_, _, _, X d _ l, ⟨rfl, rfl, rfl⟩, rfl, ?_, ?_, ?_⟩, ?_⟩
  · simp only [List.cons.injEq, and_true] at e
    obtain ⟨rfl, rfl, rfl, rfl, rfl, rfl, rfl, rfl, rfl, rfl⟩ := e
    intro x hx
    simp at hx
    rcases hx with rfl | rfl | rfl | rfl | rfl | rfl | rfl | rfl | rfl | rfl
    · exact ⟨Sum.inl 0, keyIs_int 0 a0, rfl⟩
    · exact ⟨Sum.inl 1, keyIs_int 1 a1, rfl⟩
    · exact ⟨Sum.inl 3, keyIs_int 3 a3, rfl⟩
    · exact ⟨Sum.inl 4, keyIs_int 4 a4, rfl⟩
    · exact ⟨Sum.inl 5, keyIs_int 5 a5, rfl⟩
    · exact ⟨Sum.inl 6, keyIs_int 6 a6, rfl⟩
    · exact ⟨Sum.inl 7, keyIs_int 7 a7, rfl⟩
    · exact ⟨Sum.inl 8, keyIs_int 8 a8, rfl⟩
    · exact ⟨Sum.inl 9, keyIs_int 9 a9, rfl⟩
    · exact ⟨Sum.inl 10, keyIs_int 10 a10, rfl⟩
  · exact .cons (keyIs_int 0 a0) rfl (.cons (keyIs_int 1 a1) rfl (.cons (keyIs_int 3 a3) rfl (.cons (keyIs_int 4 a4) rfl (.cons (keyIs_int 5 a5) rfl (.cons (keyIs_int 6 a6) rfl (.cons (keyIs_int 7 a7) rfl (.cons (keyIs_int 8 a8) rfl (.cons (keyIs_int 9 a9) rfl (.cons (keyIs_int 10 a10) rfl (.nil))))))))))
  · show ([Sum.inl 0, Sum.inl 1, Sum.inl 3, Sum.inl 4, Sum.inl 5, Sum.inl 6, Sum.inl 7, Sum.inl 8, Sum.inl 9, Sum.inl 10] : List Key).Nodup
    decide +kernel
  · intro i n h
    unfold tabF at h
    split at h
    · rename_i hi
      have e2 := Option.some.inj h
      subst e2
      match i, hi with
      | 0, _ => exact ⟨b0, by kernel_rfl⟩
      | 1, _ => exact ⟨b1, by kernel_rfl⟩
      | 3, _ => exact ⟨b3, by kernel_rfl⟩
      | 4, _ => exact ⟨b4, by kernel_rfl⟩
      | 5, _ => exact ⟨b5, by kernel_rfl⟩
      | 6, _ => exact ⟨b6, by kernel_rfl⟩
      | 7, _ => exact ⟨b7, by kernel_rfl⟩
      | 8, _ => exact ⟨b8, by kernel_rfl⟩
      | 9, _ => exact ⟨b9, by kernel_rfl⟩
      | 10, _ => exact ⟨b10, by kernel_rfl⟩
      | 2, hi => exact absurd rfl hi.2
      | i + 11, hi => exact absurd hi.1 (by omega)
    · cases h
theorem all_mk {P : Program} {w : World} {K : PySem.W.Frag} {h : Heap} {mg : Str → Option Value} {fa C d : Addr} (X : K.In h)
    (G : h.Ns mainGlobals mg)
    (hfa : mg "answers" = some (.ref fa))
    (aC : PySem.W.nsIn K mainGlobals "Urn" = some (some (.ref C)))
    (pg : PySem.W.plainGet K C Str.empty = true) (hd : PySem.W.hasDictIn K C = true) (po : PySem.W.plainOver K C = true) (sa : PySem.W.findIn K (.ref C) "__setattr__" = some (some (.builtin "object.__setattr__"))) (mk : PySem.W.makesIn K C = true) (kc : PySem.W.keepIn K (.ref C) = true) (nO : PySem.W.findIn K (.ref C) "outcomes" = some none) (nB : PySem.W.findIn K (.ref C) "balls" = some none)
    (f_gcd : FnAt K "common_divisor" sGcd)
    (f_terms : FnAt K "lowest_terms" sTerms)
    (f_avg : FnAt K "average_of" sAvg)
    (f_lower : FnAt K "lower_outcomes" sLower)
    (f_ways : FnAt K "ways_to_draw" sWays)
    (f_drawn : FnAt K "drawn" sDrawn)
    (f_add : FnAt K "add_draws" sAdd)
    (f_one : FnAt K "after_one_draw" sOne)
    (f_draws : FnAt K "after_draws" sDraws)
    (f_last : FnAt K "last_colours" sLast)
    (f_count : FnAt K "count_urns" sCount)
    (f_does : FnAt K "do_matter" sDoes)
    (f_first : FnAt K "first_that_matter" sFirst)
    (f_many : FnAt K "count_rules" sMany)
    (f_num : FnAt K "numbered_rule" sNum)
    (f_sures : FnAt K "count_sure_rules" sSures)
    (f_begin : FnAt K "numbers_begin" sBegin)
    (f_end : FnAt K "call_end" sEnd)
    (f_answer : FnAt K "answer" sAnswer)
    (f_answers : FnAt K "answers" sAnswers)
    (m_init : MtAt K C "__init__" "Urn.__init__" sInit)
    (m_over : MtAt K C "start_over" "Urn.start_over" sOver)
    (m_has : MtAt K C "has_colour" "Urn.has_colour" sHas)
    (m_begins : MtAt K C "begins" "Urn.begins" sBegins)
    (m_rule : MtAt K C "rule" "Urn.rule" sRule)
    (m_urn : MtAt K C "urn" "Urn.urn" sUrn)
    (m_draw : MtAt K C "draw" "Urn.draw" sDraw)
    (m_lasts : MtAt K C "lasts" "Urn.lasts" sLasts)
    (m_sure : MtAt K C "sure" "Urn.sure" sSure)
    (m_comes : MtAt K C "comes" "Urn.comes" sComes)
    (m_chances : MtAt K C "chances" "Urn.chances" sChances)
    (m_average : MtAt K C "average" "Urn.average" sAverage)
    (m_matter : MtAt K C "matter" "Urn.matter" sMatter)
    (m_rules : MtAt K C "rules" "Urn.rules" sRules)
    (c_FEWEST_COLOURS : ∃ t, PySem.W.nsIn K mainGlobals "FEWEST_COLOURS" = some (some (.int 2 t)))
    (c_MOST_COLOURS : ∃ t, PySem.W.nsIn K mainGlobals "MOST_COLOURS" = some (some (.int 4 t)))
    (c_MOST_BALLS : ∃ t, PySem.W.nsIn K mainGlobals "MOST_BALLS" = some (some (.int 8 t)))
    (c_MOST_COLOURS_OF_RULES : ∃ t, PySem.W.nsIn K mainGlobals "MOST_COLOURS_OF_RULES" = some (some (.int 3 t)))
    (c_BEGINS : ∃ t, PySem.W.nsIn K mainGlobals "BEGINS" = some (some (.int 0 t)))
    (c_RULE : ∃ t, PySem.W.nsIn K mainGlobals "RULE" = some (some (.int 1 t)))
    (c_URN : ∃ t, PySem.W.nsIn K mainGlobals "URN" = some (some (.int 2 t)))
    (c_DRAW : ∃ t, PySem.W.nsIn K mainGlobals "DRAW" = some (some (.int 3 t)))
    (c_LASTS : ∃ t, PySem.W.nsIn K mainGlobals "LASTS" = some (some (.int 4 t)))
    (c_SURE : ∃ t, PySem.W.nsIn K mainGlobals "SURE" = some (some (.int 5 t)))
    (c_COMES : ∃ t, PySem.W.nsIn K mainGlobals "COMES" = some (some (.int 6 t)))
    (c_CHANCES : ∃ t, PySem.W.nsIn K mainGlobals "CHANCES" = some (some (.int 7 t)))
    (c_AVERAGE : ∃ t, PySem.W.nsIn K mainGlobals "AVERAGE" = some (some (.int 8 t)))
    (c_MATTER : ∃ t, PySem.W.nsIn K mainGlobals "MATTER" = some (some (.int 9 t)))
    (z_range : PySem.W.nsIn K mainGlobals "range" = some none)
    (z_len : PySem.W.nsIn K mainGlobals "len" = some none)
    (z_min : PySem.W.nsIn K mainGlobals "min" = some none)
    (z_sum : PySem.W.nsIn K mainGlobals "sum" = some none)
    (z_sorted : PySem.W.nsIn K mainGlobals "sorted" = some none)
    (z_list : PySem.W.nsIn K mainGlobals "list" = some none)
    (z_tuple : PySem.W.nsIn K mainGlobals "tuple" = some none)
    (aD : PySem.W.nsIn K mainGlobals "NUMBERS_OF_CALL" = some (some (.ref d))) (TB : Tab P w K d tabF) :
    ∃ fd : FuncData, (∀ (s : Shared) (us : List Value), us.length = (["calls"] : List Str).length → BindsTo s fd ⟨us, []⟩ ((["calls"] : List Str).zip us)) ∧ ∀ base : Heap, K.In base → base.Ns mainGlobals mg → FnOk P w K mg base CX0 8 fa fd ["calls"] (spAnswers K) := by
  obtain ⟨fl, fdl, al, Fl⟩ := f_answers.ex
  have e := hfa.symm.trans (PySem.W.mg_of X G al)
  cases e
  have T : Txt K mg C := ⟨⟨pg, hd, po, sa⟩, nO, nB⟩
  have cn : ∀ {x : Str} {i : Int}, (∃ t, PySem.W.nsIn K mainGlobals x = some (some (.int i t))) → ∃ t, mg x = some (.int i t) := fun ⟨t, e⟩ => ⟨t, PySem.W.mg_of X G e⟩
  have N : Cs mg := ⟨cn c_FEWEST_COLOURS, cn c_MOST_COLOURS, cn c_MOST_BALLS, cn c_MOST_COLOURS_OF_RULES, cn c_BEGINS, cn c_RULE, cn c_URN, cn c_DRAW, cn c_LASTS, cn c_SURE, cn c_COMES, cn c_CHANCES, cn c_AVERAGE, cn c_MATTER⟩
  have B : Bt mg := ⟨PySem.W.mg_none_of X G z_range, PySem.W.mg_none_of X G z_len, PySem.W.mg_none_of X G z_min, PySem.W.mg_none_of X G z_sum, PySem.W.mg_none_of X G z_sorted, PySem.W.mg_none_of X G z_list, PySem.W.mg_none_of X G z_tuple⟩
  have hD := PySem.W.mg_of X G aD
  refine ⟨fdl, fun s us hu => ?_, fun base _ _ => ?_⟩
  · obtain ⟨oc, od, kV, doc, pm, an, cdv, ct, osl, rfl, lk, hcd⟩ := Fl.ex
    match us, hu with
    | [_], _ => exact .of_eq rfl
  · have g_gcd := has_of (P := P) (w := w) (base := base) X G f_gcd (fun _ _ _ _ _ _ us hl => match us, hl with | [_, _], _ => rfl) fun f fd F => ok_gcd F
    have g_terms := has_of (P := P) (w := w) (base := base) X G f_terms (fun _ _ _ _ _ _ us hl => match us, hl with | [_, _], _ => rfl) fun f fd F => ok_terms F g_gcd
    have g_avg := has_of (P := P) (w := w) (base := base) X G f_avg (fun _ _ _ _ _ _ us hl => match us, hl with | [_, _], _ => rfl) fun f fd F => ok_avg F B g_terms
    have g_lower := has_of (P := P) (w := w) (base := base) X G f_lower (fun _ _ _ _ _ _ us hl => match us, hl with | [_], _ => rfl) fun f fd F => ok_lower F B
    have g_ways := has_of (P := P) (w := w) (base := base) X G f_ways (fun _ _ _ _ _ _ us hl => match us, hl with | [_, _, _], _ => rfl) fun f fd F => ok_ways F
    have g_drawn := has_of (P := P) (w := w) (base := base) X G f_drawn (fun _ _ _ _ _ _ us hl => match us, hl with | [_, _, _, _], _ => rfl) fun f fd F => ok_drawn F B
    have g_add := has_of (P := P) (w := w) (base := base) X G f_add (fun _ _ _ _ _ _ us hl => match us, hl with | [_, _, _, _], _ => rfl) fun f fd F => ok_add F B g_ways g_drawn
    have g_one := has_of (P := P) (w := w) (base := base) X G f_one (fun _ _ _ _ _ _ us hl => match us, hl with | [_, _], _ => rfl) fun f fd F => ok_one F g_add
    have g_draws := has_of (P := P) (w := w) (base := base) X G f_draws (fun _ _ _ _ _ _ us hl => match us, hl with | [_, _, _], _ => rfl) fun f fd F => ok_draws F B g_one
    have g_last := has_of (P := P) (w := w) (base := base) X G f_last (fun _ _ _ _ _ _ us hl => match us, hl with | [_, _], _ => rfl) fun f fd F => ok_last F B g_draws
    have g_count := has_of (P := P) (w := w) (base := base) X G f_count (fun _ _ _ _ _ _ us hl => match us, hl with | [_, _], _ => rfl) fun f fd F => ok_count F B g_one
    have g_does := has_of (P := P) (w := w) (base := base) X G f_does (fun _ _ _ _ _ _ us hl => match us, hl with | [_, _, _, _], _ => rfl) fun f fd F => ok_does F
    have g_first := has_of (P := P) (w := w) (base := base) X G f_first (fun _ _ _ _ _ _ us hl => match us, hl with | [_], _ => rfl) fun f fd F => ok_first F B g_does
    have g_many := has_of (P := P) (w := w) (base := base) X G f_many (fun _ _ _ _ _ _ us hl => match us, hl with | [_], _ => rfl) fun f fd F => ok_many F B
    have g_num := has_of (P := P) (w := w) (base := base) X G f_num (fun _ _ _ _ _ _ us hl => match us, hl with | [_, _], _ => rfl) fun f fd F => ok_num F B g_lower
    have g_sures := has_of (P := P) (w := w) (base := base) X G f_sures (fun _ _ _ _ _ _ us hl => match us, hl with | [_], _ => rfl) fun f fd F => ok_sures F B g_many g_first g_num
    have n_over := hasM_of (P := P) (w := w) (mg := mg) (base := base) m_over (fun _ _ _ _ _ _ us hl => match us, hl with | [_, _], _ => rfl) fun f fd F => ok_over F T g_lower
    have n_has := hasM_of (P := P) (w := w) (mg := mg) (base := base) m_has (fun _ _ _ _ _ _ us hl => match us, hl with | [_, _], _ => rfl) fun f fd F => ok_has F T B
    have n_begins := hasM_of (P := P) (w := w) (mg := mg) (base := base) m_begins (fun _ _ _ _ _ _ us hl => match us, hl with | [_, _], _ => rfl) fun f fd F => ok_begins F T N n_over
    have n_rule := hasM_of (P := P) (w := w) (mg := mg) (base := base) m_rule (fun _ _ _ _ _ _ us hl => match us, hl with | [_, _, _, _], _ => rfl) fun f fd F => ok_rule F T n_has
    have n_urn := hasM_of (P := P) (w := w) (mg := mg) (base := base) m_urn (fun _ _ _ _ _ _ us hl => match us, hl with | [_, _], _ => rfl) fun f fd F => ok_urn F T B N
    have n_draw := hasM_of (P := P) (w := w) (mg := mg) (base := base) m_draw (fun _ _ _ _ _ _ us hl => match us, hl with | [_, _, _], _ => rfl) fun f fd F => ok_draw F T n_has g_ways g_drawn
    have n_lasts := hasM_of (P := P) (w := w) (mg := mg) (base := base) m_lasts (fun _ _ _ _ _ _ us hl => match us, hl with | [_], _ => rfl) fun f fd F => ok_lasts F T B g_last
    have n_sure := hasM_of (P := P) (w := w) (mg := mg) (base := base) m_sure (fun _ _ _ _ _ _ us hl => match us, hl with | [_], _ => rfl) fun f fd F => ok_sure F T B g_last
    have n_comes := hasM_of (P := P) (w := w) (mg := mg) (base := base) m_comes (fun _ _ _ _ _ _ us hl => match us, hl with | [_], _ => rfl) fun f fd F => ok_comes F T g_count
    have n_chances := hasM_of (P := P) (w := w) (mg := mg) (base := base) m_chances (fun _ _ _ _ _ _ us hl => match us, hl with | [_], _ => rfl) fun f fd F => ok_chances F T B g_draws g_avg
    have n_average := hasM_of (P := P) (w := w) (mg := mg) (base := base) m_average (fun _ _ _ _ _ _ us hl => match us, hl with | [_, _, _], _ => rfl) fun f fd F => ok_average F T B n_has g_draws g_avg
    have n_matter := hasM_of (P := P) (w := w) (mg := mg) (base := base) m_matter (fun _ _ _ _ _ _ us hl => match us, hl with | [_], _ => rfl) fun f fd F => ok_matter F T g_first
    have n_rules := hasM_of (P := P) (w := w) (mg := mg) (base := base) m_rules (fun _ _ _ _ _ _ us hl => match us, hl with | [_, _], _ => rfl) fun f fd F => ok_rules F T N g_many g_sures
    have g_begin := has_of (P := P) (w := w) (base := base) X G f_begin (fun _ _ _ _ _ _ us hl => match us, hl with | [_, _], _ => rfl) fun f fd F => ok_begin F N
    have g_end := has_of (P := P) (w := w) (base := base) X G f_end (fun _ _ _ _ _ _ us hl => match us, hl with | [_, _], _ => rfl) fun f fd F => ok_end F N hD TB g_begin
    have M : Ms P w K mg base C := ⟨n_begins.mono (by decide), n_rule.mono (by decide), n_urn.mono (by decide), n_draw.mono (by decide), n_lasts, n_sure, n_comes.mono (by decide), n_chances.mono (by decide), n_average.mono (by decide), n_matter.mono (by decide), n_rules.mono (by decide)⟩
    have g_answer := has_of (P := P) (w := w) (base := base) X G f_answer (fun _ _ _ _ _ _ us hl => match us, hl with | [_, _, _], _ => rfl) fun f fd F => ok_answer F T N M
    obtain ⟨fi, fdi, mi, ai, ii, Fi⟩ := m_init.ex
    have bi := Fi.binds (ps := ["self"]) fun _ _ _ _ _ _ us hl => match us, hl with | [_], _ => rfl
    exact ok_answers Fl B (PySem.W.mg_of X G aC) ⟨mk, ai, ii, kc⟩ bi ((ok_init Fi T N n_over).mono (by decide)) (g_begin.mono (by decide)) (g_end.mono (by decide)) g_answer
end U
open PySem PySem.W PyProof.Rows
set_option maxRecDepth 100000 in
set_option maxHeartbeats 0 in
theorem PySem.Challenge.cw_urndraws_s01_answers_holds : PySem.Challenge.rw_urndraws_s01_answers.Holds := by
  w_on; k_headS; (case hw => exact ⟨[.list [.int 6]], by decide +kernel, by decide +kernel⟩)
  k_fillS
  refine L2.walk_specK (r := PySem.Challenge.rw_urndraws_s01_answers) (k := 8) (CX := L2.CX0) (ps := ["calls"]) (sp := U.spAnswers) (by decide +kernel) rfl rfl ⟨rfl, by decide, by decide⟩ (fun w h Y => PySem.W.kIn_of Y) ?F ?S (fun _ _ _ _ z => z)
  case F =>
    intro w mg fa h Y KX G hmg
    refine' U.all_mk KX G hmg ?aC ?pg ?hd ?po ?sa ?mk ?kc ?nO ?nB (U.fn_at ?fa_gcd ?fl_gcd ?fc_gcd ?fk_gcd) (U.fn_at ?fa_terms ?fl_terms ?fc_terms ?fk_terms) (U.fn_at ?fa_avg ?fl_avg ?fc_avg ?fk_avg) (U.fn_at ?fa_lower ?fl_lower ?fc_lower ?fk_lower) (U.fn_at ?fa_ways ?fl_ways ?fc_ways ?fk_ways) (U.fn_at ?fa_drawn ?fl_drawn ?fc_drawn ?fk_drawn) (U.fn_at ?fa_add ?fl_add ?fc_add ?fk_add) (U.fn_at ?fa_one ?fl_one ?fc_one ?fk_one) (U.fn_at ?fa_draws ?fl_draws ?fc_draws ?fk_draws) (U.fn_at ?fa_last ?fl_last ?fc_last ?fk_last) (U.fn_at ?fa_count ?fl_count ?fc_count ?fk_count) (U.fn_at ?fa_does ?fl_does ?fc_does ?fk_does) (U.fn_at ?fa_first ?fl_first ?fc_first ?fk_first) (U.fn_at ?fa_many ?fl_many ?fc_many ?fk_many) (U.fn_at ?fa_num ?fl_num ?fc_num ?fk_num) (U.fn_at ?fa_sures ?fl_sures ?fc_sures ?fk_sures) (U.fn_at ?fa_begin ?fl_begin ?fc_begin ?fk_begin) (U.fn_at ?fa_end ?fl_end ?fc_end ?fk_end) (U.fn_at ?fa_answer ?fl_answer ?fc_answer ?fk_answer) (U.fn_at ?fa_answers ?fl_answers ?fc_answers ?fk_answers) (U.mt_at ?ma_init ?mi_init ?ml_init ?mc_init ?mk_init) (U.mt_at ?ma_over ?mi_over ?ml_over ?mc_over ?mk_over) (U.mt_at ?ma_has ?mi_has ?ml_has ?mc_has ?mk_has) (U.mt_at ?ma_begins ?mi_begins ?ml_begins ?mc_begins ?mk_begins) (U.mt_at ?ma_rule ?mi_rule ?ml_rule ?mc_rule ?mk_rule) (U.mt_at ?ma_urn ?mi_urn ?ml_urn ?mc_urn ?mk_urn) (U.mt_at ?ma_draw ?mi_draw ?ml_draw ?mc_draw ?mk_draw) (U.mt_at ?ma_lasts ?mi_lasts ?ml_lasts ?mc_lasts ?mk_lasts) (U.mt_at ?ma_sure ?mi_sure ?ml_sure ?mc_sure ?mk_sure) (U.mt_at ?ma_comes ?mi_comes ?ml_comes ?mc_comes ?mk_comes) (U.mt_at ?ma_chances ?mi_chances ?ml_chances ?mc_chances ?mk_chances) (U.mt_at ?ma_average ?mi_average ?ml_average ?mc_average ?mk_average) (U.mt_at ?ma_matter ?mi_matter ?ml_matter ?mc_matter ?mk_matter) (U.mt_at ?ma_rules ?mi_rules ?ml_rules ?mc_rules ?mk_rules) (U.cst ?c_FEWEST_COLOURS) (U.cst ?c_MOST_COLOURS) (U.cst ?c_MOST_BALLS) (U.cst ?c_MOST_COLOURS_OF_RULES) (U.cst ?c_BEGINS) (U.cst ?c_RULE) (U.cst ?c_URN) (U.cst ?c_DRAW) (U.cst ?c_LASTS) (U.cst ?c_SURE) (U.cst ?c_COMES) (U.cst ?c_CHANCES) (U.cst ?c_AVERAGE) (U.cst ?c_MATTER) ?z_range ?z_len ?z_min ?z_sum ?z_sorted ?z_list ?z_tuple ?aD (U.tab_mk ?lD ?eD)
    (case aC => k_is); (case pg => k_is); (case hd => k_is); (case po => k_is); (case sa => k_is); (case mk => k_is)
    (case kc => k_is); (case nO => k_is); (case nB => k_is); (case fa_gcd => k_is); (case fl_gcd => k_is); (case fc_gcd => k_is)
    (case fk_gcd => k_is); (case fa_terms => k_is); (case fl_terms => k_is); (case fc_terms => k_is); (case fk_terms => k_is); (case fa_avg => k_is)
    (case fl_avg => k_is); (case fc_avg => k_is); (case fk_avg => k_is); (case fa_lower => k_is); (case fl_lower => k_is); (case fc_lower => k_is)
    (case fk_lower => k_is); (case fa_ways => k_is); (case fl_ways => k_is); (case fc_ways => k_is); (case fk_ways => k_is); (case fa_drawn => k_is)
    (case fl_drawn => k_is); (case fc_drawn => k_is); (case fk_drawn => k_is); (case fa_add => k_is); (case fl_add => k_is); (case fc_add => k_is)
    (case fk_add => k_is); (case fa_one => k_is); (case fl_one => k_is); (case fc_one => k_is); (case fk_one => k_is); (case fa_draws => k_is)
    (case fl_draws => k_is); (case fc_draws => k_is); (case fk_draws => k_is); (case fa_last => k_is); (case fl_last => k_is); (case fc_last => k_is)
    (case fk_last => k_is); (case fa_count => k_is); (case fl_count => k_is); (case fc_count => k_is); (case fk_count => k_is); (case fa_does => k_is)
    (case fl_does => k_is); (case fc_does => k_is); (case fk_does => k_is); (case fa_first => k_is); (case fl_first => k_is); (case fc_first => k_is)
    (case fk_first => k_is); (case fa_many => k_is); (case fl_many => k_is); (case fc_many => k_is); (case fk_many => k_is); (case fa_num => k_is)
    (case fl_num => k_is); (case fc_num => k_is); (case fk_num => k_is); (case fa_sures => k_is); (case fl_sures => k_is); (case fc_sures => k_is)
    (case fk_sures => k_is); (case fa_begin => k_is); (case fl_begin => k_is); (case fc_begin => k_is); (case fk_begin => k_is); (case fa_end => k_is)
    (case fl_end => k_is); (case fc_end => k_is); (case fk_end => k_is); (case fa_answer => k_is); (case fl_answer => k_is); (case fc_answer => k_is)
    (case fk_answer => k_is); (case fa_answers => k_is); (case fl_answers => k_is); (case fc_answers => k_is); (case fk_answers => k_is); (case ma_init => k_is)
    (case mi_init => k_is); (case ml_init => k_is); (case mc_init => k_is); (case mk_init => k_is); (case ma_over => k_is); (case mi_over => k_is)
    (case ml_over => k_is); (case mc_over => k_is); (case mk_over => k_is); (case ma_has => k_is); (case mi_has => k_is); (case ml_has => k_is)
    (case mc_has => k_is); (case mk_has => k_is); (case ma_begins => k_is); (case mi_begins => k_is); (case ml_begins => k_is); (case mc_begins => k_is)
    (case mk_begins => k_is); (case ma_rule => k_is); (case mi_rule => k_is); (case ml_rule => k_is); (case mc_rule => k_is); (case mk_rule => k_is)
    (case ma_urn => k_is); (case mi_urn => k_is); (case ml_urn => k_is); (case mc_urn => k_is); (case mk_urn => k_is); (case ma_draw => k_is)
    (case mi_draw => k_is); (case ml_draw => k_is); (case mc_draw => k_is); (case mk_draw => k_is); (case ma_lasts => k_is); (case mi_lasts => k_is)
    (case ml_lasts => k_is); (case mc_lasts => k_is); (case mk_lasts => k_is); (case ma_sure => k_is); (case mi_sure => k_is); (case ml_sure => k_is)
    (case mc_sure => k_is); (case mk_sure => k_is); (case ma_comes => k_is); (case mi_comes => k_is); (case ml_comes => k_is); (case mc_comes => k_is)
    (case mk_comes => k_is); (case ma_chances => k_is); (case mi_chances => k_is); (case ml_chances => k_is); (case mc_chances => k_is); (case mk_chances => k_is)
    (case ma_average => k_is); (case mi_average => k_is); (case ml_average => k_is); (case mc_average => k_is); (case mk_average => k_is); (case ma_matter => k_is)
    (case mi_matter => k_is); (case ml_matter => k_is); (case mc_matter => k_is); (case mk_matter => k_is); (case ma_rules => k_is); (case mi_rules => k_is)
    (case ml_rules => k_is); (case mc_rules => k_is); (case mk_rules => k_is); (case c_FEWEST_COLOURS => k_is); (case c_MOST_COLOURS => k_is); (case c_MOST_BALLS => k_is)
    (case c_MOST_COLOURS_OF_RULES => k_is); (case c_BEGINS => k_is); (case c_RULE => k_is); (case c_URN => k_is); (case c_DRAW => k_is); (case c_LASTS => k_is)
    (case c_SURE => k_is); (case c_COMES => k_is); (case c_CHANCES => k_is); (case c_AVERAGE => k_is); (case c_MATTER => k_is); (case z_range => k_is)
    (case z_len => k_is); (case z_min => k_is); (case z_sum => k_is); (case z_sorted => k_is); (case z_list => k_is); (case z_tuple => k_is)
    (case aD => k_is); (case lD => k_is)
    (case eD => rfl)
  case S =>
    intro K H xs a hO hwi hask hx
    cases hx with
    | cons h1 h2 =>
      cases h2
      cases h1 with
      | lst hs ha =>
        have e := L2.ints_dw a.1 _ ha
        subst e
        have q : ((Codec.inLen 0 30000 a.1 && a.1.all (Codec.inInt 0 4294967295)) && true) = true := hwi
        rw [Bool.and_eq_true, Bool.and_eq_true] at q
        have pos : ∀ x ∈ a.1, (0 : Int) ≤ x := fun x hx => (Codec.inInt_iff.mp (List.all_eq_true.mp q.1.2 x hx)).1
        have en : a.1 = Uw82.ints (a.1.map Int.toNat) := by
          unfold Uw82.ints
          rw [List.map_map]
          conv => lhs; rw [← List.map_id a.1]
          apply List.map_congr_left
          intro x hx
          exact (Int.toNat_of_nonneg (pos x hx)).symm
        have hlen := (Codec.inNat_iff.mp q.1.1).2
        refine ⟨_, a.1.map Int.toNat, rfl, ?_, by rw [List.length_map]; exact hlen, by rw [← en]; exact hask, fun H' p hp => ?_⟩
        · rw [U.iv_ints, ← en]
          exact hs
        · rw [← en] at hp
          exact .lst (L2.SqL.of hp) (L2.dw_ints _)
#print axioms PySem.Challenge.cw_urndraws_s01_answers_holds
